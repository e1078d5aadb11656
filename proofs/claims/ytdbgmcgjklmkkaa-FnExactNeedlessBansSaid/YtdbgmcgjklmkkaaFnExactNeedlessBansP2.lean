/- The texts on which the proof of FnExactNeedlessBans stands, one behind the other (2 of 4). No condition of their own. -/
import Derived.Test.YtdbgmcgjklmkkaaChecked
import Derived.Test.YtdbgmcgjklmkkaaFnExactNeedlessBansP1
import Derived.WalkKit
import Derived.WalkSpells
import Derived.WalkLawsBesides
import Derived.BigQuiet
import Derived.OwnWalk
import Derived.Deep.LoopGhost
import Derived.Deep.QuietTactic
import Derived.IntWalk
import Derived.Lib.QuietBelow
import Derived.Deep.RegionHeld3
import Derived.Lib.SliceRun
/- loop.example/g01062/spec.NeedlessBans as a plain function, and the contract of the program's: where the plain one has an answer, the program has it. Conditions: slices read as lists. -/
namespace Go.Proofs.Ytdbgmcgjklmkkaa.GsNeedlessBans
set_option linter.unusedVariables false
set_option linter.unusedSimpArgs false
open Go.RowKit
open Go.Proofs.Ytdbgmcgjklmkkaa.Rowed Go.Proofs.Ytdbgmcgjklmkkaa.Turn Go.Proofs.Ytdbgmcgjklmkkaa.Aid Go.Proofs.Ytdbgmcgjklmkkaa.GoP Go.Proofs.Ytdbgmcgjklmkkaa.GoM

def l0 (t_sizes : (List Int)) (t_bans : (List Go.Proofs.Ytdbgmcgjklmkkaa.PBan.Ban)) (fuel : Nat) (t_12 : Int) (s : (List Int) × Int) (nx0 bk0 : (List Int) × Int → Option ((List Int) × Bool)) : Option ((List Int) × Bool) :=
  unp2 s fun out_4l0 i_6l0 =>
  letK (decide (i_6l0 < (t_bans.length : Int))) fun (t_19 : Bool) =>
  iteK t_19
  (guardK ((0 : Int) ≤ i_6l0 ∧ (i_6l0 : Int) ≤ (t_bans.length : Int)) <|
  letK (List.take (Int.toNat i_6l0) t_bans) fun (t_26 : (List Go.Proofs.Ytdbgmcgjklmkkaa.PBan.Ban)) =>
  guardK (([] : List Go.Proofs.Ytdbgmcgjklmkkaa.PBan.Ban).length + t_26.length ≤ 1099511627776) <|
  letK (([] : List Go.Proofs.Ytdbgmcgjklmkkaa.PBan.Ban) ++ t_26) fun (t_27 : (List Go.Proofs.Ytdbgmcgjklmkkaa.PBan.Ban)) =>
  letK (IntKind.i64.wrap (i_6l0 + 1)) fun (t_31 : Int) =>
  guardK ((0 : Int) ≤ t_31 ∧ (t_31 : Int) ≤ (t_bans.length : Int)) <|
  letK (List.drop (Int.toNat t_31) t_bans) fun (t_32 : (List Go.Proofs.Ytdbgmcgjklmkkaa.PBan.Ban)) =>
  guardK (t_27.length + t_32.length ≤ 1099511627776) <|
  letK (t_27 ++ t_32) fun (t_33 : (List Go.Proofs.Ytdbgmcgjklmkkaa.PBan.Ban)) =>
  Option.bind (Go.Proofs.Ytdbgmcgjklmkkaa.GsL6With.P fuel t_sizes t_33 (-1) 0) fun (t_38 : Int) =>
  letK (t_38 == t_12) fun (t_40 : Bool) =>
  iteK t_40
  (guardK (out_4l0.length ≤ 1099511627776) <|
  letK (out_4l0 ++ [i_6l0]) fun (t_44 : (List Int)) =>
  letK (IntKind.i64.wrap (i_6l0 + 1)) fun (t_47 : Int) =>
  appK nx0 (t_44, t_47))
  (letK (IntKind.i64.wrap (i_6l0 + 1)) fun (t_47 : Int) =>
  appK nx0 (out_4l0, t_47)))
  (appK bk0 (out_4l0, i_6l0))

def e0  (s : (List Int) × Int) : Option ((List Int) × Bool) :=
  unp2 s fun out_4l0 i_6l0 =>
  some (out_4l0, true)

def P (fuel : Nat) (t_sizes : (List Int)) (t_bans : (List Go.Proofs.Ytdbgmcgjklmkkaa.PBan.Ban)) : Option ((List Int) × Bool) :=
  Option.bind (Go.Proofs.Ytdbgmcgjklmkkaa.GsL6Good.P fuel t_sizes t_bans) fun (t_6 : Bool) =>
  letK (!t_6) fun (t_7 : Bool) =>
  iteK t_7
  (some (([] : List Int), false))
  (Option.bind (Go.Proofs.Ytdbgmcgjklmkkaa.GsL6With.P fuel t_sizes t_bans (-1) 0) fun (t_12 : Int) =>
  loopK (l0 t_sizes t_bans fuel t_12) fuel (([] : List Int), 0) (e0 ))

set_option maxRecDepth 100000 in
set_option maxHeartbeats 2000000 in
theorem C (fuel : Nat) (t_sizes : (List Int)) (t_bans : (List Go.Proofs.Ytdbgmcgjklmkkaa.PBan.Ban)) (A0_0 : Option Addr) (c0_0 : Nat) (A0_1 : Option Addr) (c0_1 : Nat)  (w : World) (M0_0 : Hid (Cells w 1 A0_0 t_sizes.length (Go.Proofs.Ytdbgmcgjklmkkaa.HelpInt.iv t_sizes))) (N0_0 : Hid (t_sizes.length ≤ 9223372036854775807)) (Q0_0 : Hid (Room A0_0 t_sizes.length c0_0)) (M0_1 : Hid (Cells w 4 A0_1 t_bans.length (Go.Proofs.Ytdbgmcgjklmkkaa.PBan.flat t_bans))) (N0_1 : Hid (t_bans.length ≤ 9223372036854775807)) (Q0_1 : Hid (Room A0_1 t_bans.length c0_1))  {r0 : (List Int)} {r1 : Bool} (H : Hid (P fuel t_sizes t_bans = some (r0, r1))) :
    Calls Try.prog 13 #[.agg #[.slice A0_0 t_sizes.length c0_0, .slice A0_1 t_bans.length c0_1]] w (fun e w' => ∃ A_r0 c_r0, e = .returned (.tuple #[.slice A_r0 r0.length c_r0, .bool r1]) ∧ w'.ownsRow w.heap.size 3 1 (.slice A_r0 r0.length c_r0) r0.length (Go.Proofs.Ytdbgmcgjklmkkaa.HelpInt.iv r0) ∧ Below w.heap.size w w') := by
  have HB := Lib.hid (Below.refl w.heap.size w)
  unfold P at H
  have N0_0o := N0_0.out
  have N0_1o := N0_1.out
  obtain ⟨i0_96, hi_96, hz0_96, hz1_96, hz2_96⟩ := Aid.info_parts (P := Try.prog) (T := 96) (z := .agg #[.int .i64 0, .int .i64 0, .int .i64 0, .int .i64 0]) (s := 4) (b := 32) (by kernel_rfl)
  obtain ⟨i0_3, hi_3, hz0_3, hz1_3, hz2_3⟩ := Aid.info_parts (P := Try.prog) (T := 3) (z := .int .i64 0) (s := 1) (b := 8) (by kernel_rfl)
  go_enter Try.func13, Try.ntmps13
  obtain ⟨w_t_0, hw_t_0⟩ : ∃ x, w.alloc (.cells #[.slice A0_0 t_sizes.length c0_0, .slice A0_1 t_bans.length c0_1] 31) = x := ⟨_, rfl⟩
  have bw_t_0 : Below w.heap.size w w_t_0 := by rw [← hw_t_0]; exact (Below.refl _ _).alloc (Nat.le_refl _) _
  have HBw_t_0 := Lib.hid (Below.step HB.out bw_t_0)
  clear bw_t_0
  have kt_0_0 : w_t_0.cell? ⟨w.heap.size, 0, none⟩ = some (.slice A0_0 t_sizes.length c0_0) := by rw [← hw_t_0]; exact box_new _ _ _ 0 _ rfl
  have kt_0_1 : w_t_0.cell? ⟨w.heap.size, 1, none⟩ = some (.slice A0_1 t_bans.length c0_1) := by rw [← hw_t_0]; exact box_new _ _ _ 1 _ rfl
  obtain ⟨w_t_3, hw_t_3⟩ : ∃ x, w_t_0.alloc (.cells #[] 3) = x := ⟨_, rfl⟩
  have bw_t_3 : Below w_t_0.heap.size w_t_0 w_t_3 := by rw [← hw_t_3]; exact (Below.refl _ _).alloc (Nat.le_refl _) _
  have Ot_3 : Hid (w_t_3.ownsRow w.heap.size 3 1 (.slice (some ⟨w_t_0.heap.size, 0, none⟩) 0 0) 0 []) := Lib.hid (by rw [← hw_t_3]; exact own_empty HBw_t_0.out.size)
  have Dt_3_t_0 := Lib.hid (apart_box kt_0_0)
  have HBw_t_3 := Lib.hid (Below.step HBw_t_0.out bw_t_3)
  have kt_0_0__120 := cell_below bw_t_3 kt_0_0
  have kt_0_1__121 := cell_below bw_t_3 kt_0_1
  clear bw_t_3
  replace H := bind_hid H
  obtain ⟨t_6, qt_6, H⟩ := H
  go_wp2_with fail
  clear kt_0_0 kt_0_1
  go_at_call 68
  refine (Go.Proofs.Ytdbgmcgjklmkkaa.GsL6Good.C fuel (t_sizes) (t_bans) A0_0 c0_0 A0_1 c0_1 _   (Lib.hid (Cells.below M0_0.out HBw_t_3.out)) N0_0 (Lib.hid (Cells.below M0_1.out HBw_t_3.out)) N0_1 qt_6).mono ?_
  rintro e_t_6 wt_6 ⟨rfl, bt_6⟩
  have HBwt_6 := Lib.hid (Below.step HBw_t_3.out bt_6)
  replace kt_0_0__120 := cell_below bt_6 kt_0_0__120
  replace kt_0_1__121 := cell_below bt_6 kt_0_1__121
  replace Ot_3 := Lib.hid (own_below Ot_3.out bt_6)
  clear bt_6
  cases t_6 with
  | false =>
    replace H := let_hid H
    obtain ⟨t_7, ht_7, H⟩ := H
    obtain rfl : t_7 = true := ht_7.symm
    replace H := ite_t H
    cases ret_hid H
    go_wp2_with fail
    go_ret2
    exact ⟨(some ⟨w_t_0.heap.size, 0, none⟩), 0, rfl, Ot_3.out, HBwt_6.out⟩
  | true =>
    replace H := let_hid H
    obtain ⟨t_7, ht_7, H⟩ := H
    obtain rfl : t_7 = false := ht_7.symm
    replace H := ite_f H
    replace H := bind_hid H
    obtain ⟨t_12, qt_12, H⟩ := H
    go_wp2_with fail
    go_at_call 69
    refine (Go.Proofs.Ytdbgmcgjklmkkaa.GsL6With.C fuel (t_sizes) (t_bans) ((-1)) (0) A0_0 c0_0 A0_1 c0_1 _   (Lib.hid (Cells.below M0_0.out HBwt_6.out)) N0_0 (Lib.hid (Cells.below M0_1.out HBwt_6.out)) N0_1 qt_12).mono ?_
    rintro e_t_12 wt_12 ⟨rfl, bt_12⟩
    have HBwt_12 := Lib.hid (Below.step HBwt_6.out bt_12)
    replace kt_0_0__120 := cell_below bt_12 kt_0_0__120
    replace kt_0_1__121 := cell_below bt_12 kt_0_1__121
    replace Ot_3 := Lib.hid (own_below Ot_3.out bt_12)
    clear bt_12
    go_wp2_with fail
    go_loopg [4, 6] (fuel) (fun m_ v4_ v6_ wr => ∃ (out_4l0 : (List Int)) (i_6l0 : Int) (Aout_4l0 : Option Addr) (cout_4l0 : Nat), v4_ = .slice Aout_4l0 out_4l0.length cout_4l0 ∧ v6_ = .int .i64 i_6l0 ∧ Hid (loopK (l0 t_sizes t_bans fuel t_12) m_ (out_4l0, i_6l0) (e0 ) = some (r0, r1)) ∧ Hid (Below w.heap.size w wr) ∧ wr.cell? ⟨w.heap.size, 0, none⟩ = some (.slice A0_0 t_sizes.length c0_0) ∧ wr.cell? ⟨w.heap.size, 1, none⟩ = some (.slice A0_1 t_bans.length c0_1) ∧ Hid (wr.ownsRow w.heap.size 3 1 (.slice Aout_4l0 out_4l0.length cout_4l0) out_4l0.length (Go.Proofs.Ytdbgmcgjklmkkaa.HelpInt.iv out_4l0)) ∧ Hid (Apart Aout_4l0 (some ⟨w.heap.size, 0, none⟩)))
    case atStart => exact ⟨_, _, _, _, rfl, rfl, H, HBwt_12, kt_0_0__120, kt_0_1__121, Ot_3, Lib.hid Dt_3_t_0.out⟩
    case round =>
      obtain ⟨out_4l0, i_6l0, Aout_4l0, cout_4l0, rfl, rfl, H, HBwr0, kt_0_0__120, kt_0_1__121, Oout_4l0, Dout_4l0_t_0⟩ := hrel
      rename World => wr0
      cases gk with
      | zero => exact (loop_zero H).elim
      | succ m0 =>
        replace H := loop_succ H
        unfold l0 at H
        replace H := unp2_hid H
        replace H := let_hid H
        obtain ⟨t_19, ht_19, H⟩ := H
        cases t_19 with
        | false =>
          replace H := ite_f H
          replace H := app_hid H
          unfold e0 at H
          replace H := unp2_hid H
          cases ret_hid H
          go_wp2_with fail
          go_ret2
          exact ⟨Aout_4l0, cout_4l0, rfl, Oout_4l0.out, HBwr0.out⟩
        | true =>
          replace H := ite_t H
          go_wp2_with fail
          have bd8 : Below wr0.heap.size wr0 wr0.drew := (Below.refl _ _).drew
          have HBwr0.drew := Lib.hid (Below.step HBwr0.out bd8)
          replace kt_0_0__120 := cell_below bd8 kt_0_0__120
          replace kt_0_1__121 := cell_below bd8 kt_0_1__121
          replace Oout_4l0 := Lib.hid (own_below Oout_4l0.out bd8)
          clear bd8
          replace H := guard_hid H
          obtain ⟨hl_t_26, H⟩ := H
          replace H := let_hid H
          obtain ⟨t_26, ht_26, H⟩ := H
          have dt_26 : ((Go.Proofs.Ytdbgmcgjklmkkaa.PBan.flat t_bans)).take (Int.toNat i_6l0 * 4) = (Go.Proofs.Ytdbgmcgjklmkkaa.PBan.flat t_26) := by
            rw [← ht_26]
            exact flat_take Go.Proofs.Ytdbgmcgjklmkkaa.PBan.Ban.cells 4 (fun _ => rfl) _ _
          have nt_26 : Int.toNat i_6l0 = t_26.length := by rw [← ht_26, List.length_take]; omega
          obtain ⟨rt_26, Mt_26, Qt_26⟩ := slice_headB (P := Try.prog) (t := 29) (e := 96) (k := .i64) (by kernel_rfl) (by kernel_rfl) hi_96 hz1_96 M0_1.out Q0_1.out hl_t_26 nt_26 dt_26
          have Nt_26 : Hid (t_26.length ≤ 9223372036854775807) := Lib.hid (by have := N0_1.out; omega)
          replace Mt_26 := Lib.hid Mt_26
          replace Qt_26 := Lib.hid Qt_26
          clear dt_26 nt_26 hl_t_26
          have hht_26 := Lib.hid ht_26
          clear ht_26
          replace H := guard_hid H
          obtain ⟨hlt_27, H⟩ := H
          replace H := let_hid H
          obtain ⟨t_27, ht_27, H⟩ := H
          have hht_27 := Lib.hid ht_27
          clear ht_27
          replace H := let_hid H
          obtain ⟨t_31, ht_31, H⟩ := H
          replace H := guard_hid H
          obtain ⟨hl_t_32, H⟩ := H
          replace H := let_hid H
          obtain ⟨t_32, ht_32, H⟩ := H
          have dt_32 : ((Go.Proofs.Ytdbgmcgjklmkkaa.PBan.flat t_bans)).drop (Int.toNat t_31 * 4) = (Go.Proofs.Ytdbgmcgjklmkkaa.PBan.flat t_32) := by
            rw [← ht_32]
            exact flat_drop Go.Proofs.Ytdbgmcgjklmkkaa.PBan.Ban.cells 4 (fun _ => rfl) _ _
          have nt_32 : t_bans.length - Int.toNat t_31 = t_32.length := by rw [← ht_32, List.length_drop]
          obtain ⟨At_32, ct_32, rt_32, Mt_32, Qt_32⟩ := slice_tail (P := Try.prog) (t := 29) (e := 96) (k := .i64) (by kernel_rfl) (by kernel_rfl) hi_96 hz1_96 M0_1.out Q0_1.out hl_t_32 nt_32 dt_32
          have Nt_32 : Hid (t_32.length ≤ 9223372036854775807) := Lib.hid (by have := N0_1.out; omega)
          replace Mt_32 := Lib.hid Mt_32
          replace Qt_32 := Lib.hid Qt_32
          clear dt_32 nt_32 hl_t_32
          have hht_32 := Lib.hid ht_32
          clear ht_32
          have Not_32 := Nt_32.out
          replace H := guard_hid H
          obtain ⟨hlt_33, H⟩ := H
          replace H := let_hid H
          obtain ⟨t_33, ht_33, H⟩ := H
          have hht_33 := Lib.hid ht_33
          clear ht_33
          obtain ⟨w_t_22_p132, hw_t_22_p132⟩ : ∃ x, wr0.drew.alloc (.cells #[] 96) = x := ⟨_, rfl⟩
          have bw_t_22_p132 : Below wr0.drew.heap.size wr0.drew w_t_22_p132 := by rw [← hw_t_22_p132]; exact (Below.refl _ _).alloc (Nat.le_refl _) _
          have Ot_22_p132 : Hid (w_t_22_p132.ownsRow w.heap.size 96 4 (.slice (some ⟨wr0.heap.size, 0, none⟩) 0 0) 0 []) := Lib.hid (by rw [← hw_t_22_p132]; exact own_empty HBwr0.drew.out.size)
          have Dt_22_out_4l0_p132 := Lib.hid (apart_fresh Oout_4l0.out)
          have Dt_22_t_0_p132 := Lib.hid (apart_box kt_0_0__120)
          have HBw_t_22_p132 := Lib.hid (Below.step HBwr0.drew.out bw_t_22_p132)
          have kt_0_0__130_p132 := cell_below bw_t_22_p132 kt_0_0__120
          have kt_0_1__131_p132 := cell_below bw_t_22_p132 kt_0_1__121
          have Oout_4l0_p132 := Lib.hid (own_below Oout_4l0.out bw_t_22_p132)
          obtain ⟨w_less_35_p154, hw_less_35_p154⟩ : ∃ x, w_t_22_p132.alloc (.cells #[.slice none 0 0, .slice none 0 0] 31) = x := ⟨_, rfl⟩
          have bw_less_35_p154 : Below w_t_22_p132.heap.size w_t_22_p132 w_less_35_p154 := by rw [← hw_less_35_p154]; exact (Below.refl _ _).alloc (Nat.le_refl _) _
          have Dless_35_out_4l0_p154 := Lib.hid (apart_fresh Oout_4l0_p132.out)
          have Dless_35_t_22_p154 := Lib.hid (apart_fresh Ot_22_p132.out)
          have Dless_35_t_0_p154 := Lib.hid (apart_box kt_0_0__130_p132)
          have HBw_less_35_p154 := Lib.hid (Below.step HBw_t_22_p132.out bw_less_35_p154)
          have kt_0_0__152_p154 := cell_below bw_less_35_p154 kt_0_0__130_p132
          have kt_0_1__153_p154 := cell_below bw_less_35_p154 kt_0_1__131_p132
          have Oout_4l0_p132_p154 := Lib.hid (own_below Oout_4l0_p132.out bw_less_35_p154)
          have Ot_22_p132_p154 := Lib.hid (own_below Ot_22_p132.out bw_less_35_p154)
          have kless_35_0_p154 : w_less_35_p154.cell? ⟨w_t_22_p132.heap.size, 0, none⟩ = some (.slice none 0 0) := by rw [← hw_less_35_p154]; exact box_new _ _ _ 0 _ rfl
          have kless_35_1_p154 : w_less_35_p154.cell? ⟨w_t_22_p132.heap.size, 1, none⟩ = some (.slice none 0 0) := by rw [← hw_less_35_p154]; exact box_new _ _ _ 1 _ rfl
          have Oless_35_p154 : Hid (w_less_35_p154.ownsRow w.heap.size 31 2 (.slice (some ⟨w_t_22_p132.heap.size, 0, none⟩) 1 1) 1 [.slice none 0 0, .slice none 0 0]) := Lib.hid (by rw [← hw_less_35_p154]; exact own_laid (n := 1) HBw_t_22_p132.out.size rfl rfl (by unfold maxLen; omega))
          obtain ⟨w_less_35_p164, hw_less_35_p164⟩ : ∃ x, wr0.drew.alloc (.cells #[.slice none 0 0, .slice none 0 0] 31) = x := ⟨_, rfl⟩
          have bw_less_35_p164 : Below wr0.drew.heap.size wr0.drew w_less_35_p164 := by rw [← hw_less_35_p164]; exact (Below.refl _ _).alloc (Nat.le_refl _) _
          have Dless_35_out_4l0_p164 := Lib.hid (apart_fresh Oout_4l0.out)
          have Dless_35_t_0_p164 := Lib.hid (apart_box kt_0_0__120)
          have HBw_less_35_p164 := Lib.hid (Below.step HBwr0.drew.out bw_less_35_p164)
          have kt_0_0__162_p164 := cell_below bw_less_35_p164 kt_0_0__120
          have kt_0_1__163_p164 := cell_below bw_less_35_p164 kt_0_1__121
          have Oout_4l0_p164 := Lib.hid (own_below Oout_4l0.out bw_less_35_p164)
          have kless_35_0_p164 : w_less_35_p164.cell? ⟨wr0.heap.size, 0, none⟩ = some (.slice none 0 0) := by rw [← hw_less_35_p164]; exact box_new _ _ _ 0 _ rfl
          have kless_35_1_p164 : w_less_35_p164.cell? ⟨wr0.heap.size, 1, none⟩ = some (.slice none 0 0) := by rw [← hw_less_35_p164]; exact box_new _ _ _ 1 _ rfl
          have Oless_35_p164 : Hid (w_less_35_p164.ownsRow w.heap.size 31 2 (.slice (some ⟨wr0.heap.size, 0, none⟩) 1 1) 1 [.slice none 0 0, .slice none 0 0]) := Lib.hid (by rw [← hw_less_35_p164]; exact own_laid (n := 1) HBwr0.drew.out.size rfl rfl (by unfold maxLen; omega))
          obtain ⟨w_t_22_p169, hw_t_22_p169⟩ : ∃ x, w_less_35_p164.alloc (.cells #[] 96) = x := ⟨_, rfl⟩
          have bw_t_22_p169 : Below w_less_35_p164.heap.size w_less_35_p164 w_t_22_p169 := by rw [← hw_t_22_p169]; exact (Below.refl _ _).alloc (Nat.le_refl _) _
          have Ot_22_p169 : Hid (w_t_22_p169.ownsRow w.heap.size 96 4 (.slice (some ⟨w_less_35_p164.heap.size, 0, none⟩) 0 0) 0 []) := Lib.hid (by rw [← hw_t_22_p169]; exact own_empty HBw_less_35_p164.out.size)
          have Dt_22_out_4l0_p169 := Lib.hid (apart_fresh Oout_4l0_p164.out)
          have Dt_22_t_0_p169 := Lib.hid (apart_box kt_0_0__162_p164)
          have Dt_22_less_35_p169 := Lib.hid (apart_box kless_35_0_p164)
          have HBw_t_22_p169 := Lib.hid (Below.step HBw_less_35_p164.out bw_t_22_p169)
          have kt_0_0__165_p169 := cell_below bw_t_22_p169 kt_0_0__162_p164
          have kt_0_1__166_p169 := cell_below bw_t_22_p169 kt_0_1__163_p164
          have kless_35_0_p164__167_p169 := cell_below bw_t_22_p169 kless_35_0_p164
          have kless_35_1_p164__168_p169 := cell_below bw_t_22_p169 kless_35_1_p164
          have Oout_4l0_p164_p169 := Lib.hid (own_below Oout_4l0_p164.out bw_t_22_p169)
          have Oless_35_p164_p169 := Lib.hid (own_below Oless_35_p164.out bw_t_22_p169)
          go_region_held3 (fun w' => w'.cell? ⟨w.heap.size, 0, none⟩ = some (.slice A0_0 t_sizes.length c0_0) ∧ w'.cell? ⟨w.heap.size, 1, none⟩ = some (.slice A0_1 t_bans.length c0_1)) (first | exact ⟨kt_0_0__120, kt_0_1__121⟩ | exact ⟨kt_0_0__130_p132, kt_0_1__131_p132⟩ | exact ⟨kt_0_0__130_p132_p133, kt_0_1__131_p132_p133⟩ | exact ⟨kt_0_0__130_p132_p133_p134, kt_0_1__131_p132_p133_p134⟩ | exact ⟨kt_0_0__135_p137, kt_0_1__136_p137⟩ | exact ⟨kt_0_0__138_p142, kt_0_1__139_p142⟩ | exact ⟨kt_0_0__143_p145, kt_0_1__144_p145⟩ | exact ⟨kt_0_0__143_p145_p146, kt_0_1__144_p145_p146⟩ | exact ⟨kt_0_0__147_p151, kt_0_1__148_p151⟩ | exact ⟨kt_0_0__152_p154, kt_0_1__153_p154⟩ | exact ⟨kt_0_0__152_p154_p155, kt_0_1__153_p154_p155⟩ | exact ⟨kt_0_0__152_p154_p155_p156, kt_0_1__153_p154_p155_p156⟩ | exact ⟨kt_0_0__157_p161, kt_0_1__158_p161⟩ | exact ⟨kt_0_0__162_p164, kt_0_1__163_p164⟩ | exact ⟨kt_0_0__165_p169, kt_0_1__166_p169⟩ | exact ⟨kt_0_0__165_p169_p170, kt_0_1__166_p169_p170⟩ | exact ⟨kt_0_0__165_p169_p170_p171, kt_0_1__166_p169_p170_p171⟩ | exact ⟨kt_0_0__172_p176, kt_0_1__173_p176⟩)
              (first
                | (have hst_27_p133 := HBw_t_22_p132.out.size
                   have Ct_27_p133 := Lib.hid ((Cells.below Mt_26.out HBw_t_22_p132.out))
                   have h1t_27_p133 : 0 + t_26.length ≤ maxLen := by have h_ := hlt_27; simp only [List.length_nil] at h_; unfold maxLen; omega
                   have h2t_27_p133 : (0 + t_26.length) * 32 ≤ 140737488355328 := by have h_ := hlt_27; simp only [List.length_nil] at h_; omega
                   refine Go.Proofs.Ytdbgmcgjklmkkaa.GoH.step_spread_own (w := w_t_22_p132) rfl (.tmp 24) (.tmp 28) 29 rfl w.heap.size 96 i0_96 (.agg #[.int .i64 0, .int .i64 0, .int .i64 0, .int .i64 0]) 4 32 Try.underlying29 hi_96 hz0_96 hz1_96 hz2_96 rfl (by decide) (some ⟨wr0.heap.size, 0, none⟩) 0 0 _ rfl Ot_22_p132.out A0_1 t_26.length c0_1 (Go.Proofs.Ytdbgmcgjklmkkaa.PBan.flat t_26) rfl Qt_26.out Ct_27_p133.out (fun u hu => by obtain ⟨y_, _, hy_⟩ := List.mem_flatMap.1 hu; simp only [Go.Proofs.Ytdbgmcgjklmkkaa.PBan.Ban.cells, List.mem_cons, List.not_mem_nil, or_false] at hy_; rcases hy_ with rfl | rfl | rfl | rfl <;> rfl) h1t_27_p133 h2t_27_p133 hst_27_p133 ?_
                   intro vt_27_p133 wt_27_p133 ot_27_p133 gt_27_p133 yt_27_p133
                   obtain ⟨At_27_p133, ct_27_p133, rfl, pt_27_p133⟩ := own_pushS (f := Go.Proofs.Ytdbgmcgjklmkkaa.PBan.flat) hht_27.out (by simp [Go.Proofs.Ytdbgmcgjklmkkaa.PBan.flat]) rfl ot_27_p133
                   have Pt_27_p133 := Lib.hid pt_27_p133
                   have Yt_27_p133 := Lib.hid yt_27_p133
                   have Gt_27_p133 := Lib.hid gt_27_p133
                   have HBwt_27_p133 := Lib.hid (HBw_t_22_p132.out.grown Gt_27_p133.out hst_27_p133 (fun q hq => (Ot_22_p132.out.lt q hq).1))
                   have Dt_27_out_4l0_p133 : Hid (Apart At_27_p133 _) := Lib.hid (apart_app Dt_22_out_4l0_p132.out (fun a_ ha_ => (own_lt Oout_4l0_p132.out a_ ha_).2) Yt_27_p133.out)
                   have Dt_27_t_0_p133 : Hid (Apart At_27_p133 _) := Lib.hid (apart_app Dt_22_t_0_p132.out (fun a_ ha_ => by cases ha_; exact cell_lt kt_0_0__130_p132) Yt_27_p133.out)
                   have kt_0_0__130_p132_p133 := cell_other kt_0_0__130_p132 Gt_27_p133.out Dt_22_t_0_p132.out
                   have kt_0_1__131_p132_p133 := cell_other kt_0_1__131_p132 Gt_27_p133.out Dt_22_t_0_p132.out
                   have Oout_4l0_p132_p133 := Lib.hid (own_other Oout_4l0_p132.out Gt_27_p133.out Dt_22_out_4l0_p132.out)
                   obtain ⟨w_less_35_p145, hw_less_35_p145⟩ : ∃ x, wt_27_p133.alloc (.cells #[.slice none 0 0, .slice none 0 0] 31) = x := ⟨_, rfl⟩
                   have bw_less_35_p145 : Below wt_27_p133.heap.size wt_27_p133 w_less_35_p145 := by rw [← hw_less_35_p145]; exact (Below.refl _ _).alloc (Nat.le_refl _) _
                   have Dless_35_out_4l0_p145 := Lib.hid (apart_fresh Oout_4l0_p132_p133.out)
                   have Dless_35_t_27_p145 := Lib.hid (apart_fresh Pt_27_p133.out)
                   have Dless_35_t_0_p145 := Lib.hid (apart_box kt_0_0__130_p132_p133)
                   have HBw_less_35_p145 := Lib.hid (Below.step HBwt_27_p133.out bw_less_35_p145)
                   have kt_0_0__143_p145 := cell_below bw_less_35_p145 kt_0_0__130_p132_p133
                   have kt_0_1__144_p145 := cell_below bw_less_35_p145 kt_0_1__131_p132_p133
                   have Oout_4l0_p132_p133_p145 := Lib.hid (own_below Oout_4l0_p132_p133.out bw_less_35_p145)
                   have Pt_27_p133_p145 := Lib.hid (own_below Pt_27_p133.out bw_less_35_p145)
                   have kless_35_0_p145 : w_less_35_p145.cell? ⟨wt_27_p133.heap.size, 0, none⟩ = some (.slice none 0 0) := by rw [← hw_less_35_p145]; exact box_new _ _ _ 0 _ rfl
                   have kless_35_1_p145 : w_less_35_p145.cell? ⟨wt_27_p133.heap.size, 1, none⟩ = some (.slice none 0 0) := by rw [← hw_less_35_p145]; exact box_new _ _ _ 1 _ rfl
                   have Oless_35_p145 : Hid (w_less_35_p145.ownsRow w.heap.size 31 2 (.slice (some ⟨wt_27_p133.heap.size, 0, none⟩) 1 1) 1 [.slice none 0 0, .slice none 0 0]) := Lib.hid (by rw [← hw_less_35_p145]; exact own_laid (n := 1) HBwt_27_p133.out.size rfl rfl (by unfold maxLen; omega)))
                | (have hst_33_p134 := HBwt_27_p133.out.size
                   have Ct_33_p134 := Lib.hid ((Cells.below Mt_32.out HBwt_27_p133.out))
                   have h1t_33_p134 : t_27.length + t_32.length ≤ maxLen := by have h_ := hlt_33; unfold maxLen; omega
                   have h2t_33_p134 : (t_27.length + t_32.length) * 32 ≤ 140737488355328 := by have h_ := hlt_33; omega
                   refine Go.Proofs.Ytdbgmcgjklmkkaa.GoH.step_spread_own (w := wt_27_p133) rfl (.tmp 29) (.tmp 34) 29 rfl w.heap.size 96 i0_96 (.agg #[.int .i64 0, .int .i64 0, .int .i64 0, .int .i64 0]) 4 32 Try.underlying29 hi_96 hz0_96 hz1_96 hz2_96 rfl (by decide) At_27_p133 ct_27_p133 t_27.length _ rfl Pt_27_p133.out At_32 t_32.length ct_32 (Go.Proofs.Ytdbgmcgjklmkkaa.PBan.flat t_32) rfl Qt_32.out Ct_33_p134.out (fun u hu => by obtain ⟨y_, _, hy_⟩ := List.mem_flatMap.1 hu; simp only [Go.Proofs.Ytdbgmcgjklmkkaa.PBan.Ban.cells, List.mem_cons, List.not_mem_nil, or_false] at hy_; rcases hy_ with rfl | rfl | rfl | rfl <;> rfl) h1t_33_p134 h2t_33_p134 hst_33_p134 ?_
                   intro vt_33_p134 wt_33_p134 ot_33_p134 gt_33_p134 yt_33_p134
                   obtain ⟨At_33_p134, ct_33_p134, rfl, pt_33_p134⟩ := own_pushS (f := Go.Proofs.Ytdbgmcgjklmkkaa.PBan.flat) hht_33.out (by simp [Go.Proofs.Ytdbgmcgjklmkkaa.PBan.flat]) rfl ot_33_p134
                   have Pt_33_p134 := Lib.hid pt_33_p134
                   have Yt_33_p134 := Lib.hid yt_33_p134
                   have Gt_33_p134 := Lib.hid gt_33_p134
                   have HBwt_33_p134 := Lib.hid (HBwt_27_p133.out.grown Gt_33_p134.out hst_33_p134 (fun q hq => (Pt_27_p133.out.lt q hq).1))
                   have Dt_33_out_4l0_p134 : Hid (Apart At_33_p134 _) := Lib.hid (apart_app Dt_27_out_4l0_p133.out (fun a_ ha_ => (own_lt Oout_4l0_p132_p133.out a_ ha_).2) Yt_33_p134.out)
                   have Dt_33_t_0_p134 : Hid (Apart At_33_p134 _) := Lib.hid (apart_app Dt_27_t_0_p133.out (fun a_ ha_ => by cases ha_; exact cell_lt kt_0_0__130_p132_p133) Yt_33_p134.out)
                   have kt_0_0__130_p132_p133_p134 := cell_other kt_0_0__130_p132_p133 Gt_33_p134.out Dt_27_t_0_p133.out
                   have kt_0_1__131_p132_p133_p134 := cell_other kt_0_1__131_p132_p133 Gt_33_p134.out Dt_27_t_0_p133.out
                   have Oout_4l0_p132_p133_p134 := Lib.hid (own_other Oout_4l0_p132_p133.out Gt_33_p134.out Dt_27_out_4l0_p133.out)
                   obtain ⟨w_less_35_p137, hw_less_35_p137⟩ : ∃ x, wt_33_p134.alloc (.cells #[.slice none 0 0, .slice none 0 0] 31) = x := ⟨_, rfl⟩
                   have bw_less_35_p137 : Below wt_33_p134.heap.size wt_33_p134 w_less_35_p137 := by rw [← hw_less_35_p137]; exact (Below.refl _ _).alloc (Nat.le_refl _) _
                   have Dless_35_out_4l0_p137 := Lib.hid (apart_fresh Oout_4l0_p132_p133_p134.out)
                   have Dless_35_t_33_p137 := Lib.hid (apart_fresh Pt_33_p134.out)
                   have Dless_35_t_0_p137 := Lib.hid (apart_box kt_0_0__130_p132_p133_p134)
                   have HBw_less_35_p137 := Lib.hid (Below.step HBwt_33_p134.out bw_less_35_p137)
                   have kt_0_0__135_p137 := cell_below bw_less_35_p137 kt_0_0__130_p132_p133_p134
                   have kt_0_1__136_p137 := cell_below bw_less_35_p137 kt_0_1__131_p132_p133_p134
                   have Oout_4l0_p132_p133_p134_p137 := Lib.hid (own_below Oout_4l0_p132_p133_p134.out bw_less_35_p137)
                   have Pt_33_p134_p137 := Lib.hid (own_below Pt_33_p134.out bw_less_35_p137)
                   have kless_35_0_p137 : w_less_35_p137.cell? ⟨wt_33_p134.heap.size, 0, none⟩ = some (.slice none 0 0) := by rw [← hw_less_35_p137]; exact box_new _ _ _ 0 _ rfl
                   have kless_35_1_p137 : w_less_35_p137.cell? ⟨wt_33_p134.heap.size, 1, none⟩ = some (.slice none 0 0) := by rw [← hw_less_35_p137]; exact box_new _ _ _ 1 _ rfl
                   have Oless_35_p137 : Hid (w_less_35_p137.ownsRow w.heap.size 31 2 (.slice (some ⟨wt_33_p134.heap.size, 0, none⟩) 1 1) 1 [.slice none 0 0, .slice none 0 0]) := Lib.hid (by rw [← hw_less_35_p137]; exact own_laid (n := 1) HBwt_33_p134.out.size rfl rfl (by unfold maxLen; omega))
                   obtain ⟨wb36_36_p142, hwb36_36_p142⟩ : ∃ x, ((w_less_35_p137).setCell ⟨wt_33_p134.heap.size, 0, none⟩ (.slice A0_0 t_sizes.length c0_0)).setCell ⟨wt_33_p134.heap.size, 1, none⟩ (.slice At_33_p134 t_33.length ct_33_p134) = x := ⟨_, rfl⟩
                   have z0b36_36_p142 := Oless_35_p137.out.frozenAt 0
                   have z1b36_36_p142 := Oless_35_p137.out.frozenAt 1
                   have Sb36_36_p142 := Lib.hid (own_stores [(0, .slice A0_0 t_sizes.length c0_0), (1, .slice At_33_p134 t_33.length ct_33_p134)] Oless_35_p137.out)
                   have Pb36_36_p142 : Hid (wb36_36_p142.ownsRow w.heap.size 31 2 (.slice (some ⟨wt_33_p134.heap.size, 0, none⟩) 1 1) 1 [.slice A0_0 t_sizes.length c0_0, .slice At_33_p134 t_33.length ct_33_p134]) := Lib.hid (by rw [← hwb36_36_p142]; exact Sb36_36_p142.out.1)
                   have Gb36_36_p142 : Hid (w_less_35_p137.grownBy wb36_36_p142 (Value.slice (some ⟨wt_33_p134.heap.size, 0, none⟩) 1 1).ownBlock) := Lib.hid (by rw [← hwb36_36_p142]; exact Sb36_36_p142.out.2)
                   have HBwb36_36_p142 := Lib.hid (HBw_less_35_p137.out.grown Gb36_36_p142.out HBw_less_35_p137.out.size (fun q hq => (Oless_35_p137.out.lt q hq).1))
                   have kt_0_0__138_p142 := cell_other kt_0_0__135_p137 Gb36_36_p142.out Dless_35_t_0_p137.out
                   have kt_0_1__139_p142 := cell_other kt_0_1__136_p137 Gb36_36_p142.out Dless_35_t_0_p137.out
                   have Oout_4l0_p132_p133_p134_p137_p142 := Lib.hid (own_other Oout_4l0_p132_p133_p134_p137.out Gb36_36_p142.out Dless_35_out_4l0_p137.out)
                   have Pt_33_p134_p137_p142 := Lib.hid (own_other Pt_33_p134_p137.out Gb36_36_p142.out Dless_35_t_33_p137.out)
                   have kless_35_0_p137__140_p142 : wb36_36_p142.cell? ⟨wt_33_p134.heap.size, 0, none⟩ = some (.slice A0_0 t_sizes.length c0_0) := Pb36_36_p142.out.cells rfl 0 _ rfl
                   have kless_35_1_p137__141_p142 : wb36_36_p142.cell? ⟨wt_33_p134.heap.size, 1, none⟩ = some (.slice At_33_p134 t_33.length ct_33_p134) := Pb36_36_p142.out.cells rfl 1 _ rfl)
                | (have hst_33_p146 := HBw_less_35_p145.out.size
                   have Ct_33_p146 := Lib.hid ((Cells.below Mt_32.out HBw_less_35_p145.out))
                   have h1t_33_p146 : t_27.length + t_32.length ≤ maxLen := by have h_ := hlt_33; unfold maxLen; omega
                   have h2t_33_p146 : (t_27.length + t_32.length) * 32 ≤ 140737488355328 := by have h_ := hlt_33; omega
                   refine Go.Proofs.Ytdbgmcgjklmkkaa.GoH.step_spread_own (w := w_less_35_p145) rfl (.tmp 29) (.tmp 34) 29 rfl w.heap.size 96 i0_96 (.agg #[.int .i64 0, .int .i64 0, .int .i64 0, .int .i64 0]) 4 32 Try.underlying29 hi_96 hz0_96 hz1_96 hz2_96 rfl (by decide) At_27_p133 ct_27_p133 t_27.length _ rfl Pt_27_p133_p145.out At_32 t_32.length ct_32 (Go.Proofs.Ytdbgmcgjklmkkaa.PBan.flat t_32) rfl Qt_32.out Ct_33_p146.out (fun u hu => by obtain ⟨y_, _, hy_⟩ := List.mem_flatMap.1 hu; simp only [Go.Proofs.Ytdbgmcgjklmkkaa.PBan.Ban.cells, List.mem_cons, List.not_mem_nil, or_false] at hy_; rcases hy_ with rfl | rfl | rfl | rfl <;> rfl) h1t_33_p146 h2t_33_p146 hst_33_p146 ?_
                   intro vt_33_p146 wt_33_p146 ot_33_p146 gt_33_p146 yt_33_p146
                   obtain ⟨At_33_p146, ct_33_p146, rfl, pt_33_p146⟩ := own_pushS (f := Go.Proofs.Ytdbgmcgjklmkkaa.PBan.flat) hht_33.out (by simp [Go.Proofs.Ytdbgmcgjklmkkaa.PBan.flat]) rfl ot_33_p146
                   have Pt_33_p146 := Lib.hid pt_33_p146
                   have Yt_33_p146 := Lib.hid yt_33_p146
                   have Gt_33_p146 := Lib.hid gt_33_p146
                   have HBwt_33_p146 := Lib.hid (HBw_less_35_p145.out.grown Gt_33_p146.out hst_33_p146 (fun q hq => (Pt_27_p133_p145.out.lt q hq).1))
                   have Dt_33_out_4l0_p146 : Hid (Apart At_33_p146 _) := Lib.hid (apart_app Dt_27_out_4l0_p133.out (fun a_ ha_ => (own_lt Oout_4l0_p132_p133_p145.out a_ ha_).2) Yt_33_p146.out)
                   have Dt_33_t_0_p146 : Hid (Apart At_33_p146 _) := Lib.hid (apart_app Dt_27_t_0_p133.out (fun a_ ha_ => by cases ha_; exact cell_lt kt_0_0__143_p145) Yt_33_p146.out)
                   have Dt_33_less_35_p146 : Hid (Apart At_33_p146 _) := Lib.hid (apart_app (Apart.symm Dless_35_t_27_p145.out) (fun a_ ha_ => by cases ha_; exact cell_lt kless_35_0_p145) Yt_33_p146.out)
                   have kt_0_0__143_p145_p146 := cell_other kt_0_0__143_p145 Gt_33_p146.out Dt_27_t_0_p133.out
                   have kt_0_1__144_p145_p146 := cell_other kt_0_1__144_p145 Gt_33_p146.out Dt_27_t_0_p133.out
                   have kless_35_0_p145_p146 := cell_other kless_35_0_p145 Gt_33_p146.out (Apart.symm Dless_35_t_27_p145.out)
                   have kless_35_1_p145_p146 := cell_other kless_35_1_p145 Gt_33_p146.out (Apart.symm Dless_35_t_27_p145.out)
                   have Oless_35_p145_p146 := Lib.hid (own_other Oless_35_p145.out Gt_33_p146.out (Apart.symm Dless_35_t_27_p145.out))
                   have Oout_4l0_p132_p133_p145_p146 := Lib.hid (own_other Oout_4l0_p132_p133_p145.out Gt_33_p146.out Dt_27_out_4l0_p133.out)
                   obtain ⟨wb36_36_p151, hwb36_36_p151⟩ : ∃ x, ((wt_33_p146).setCell ⟨wt_27_p133.heap.size, 0, none⟩ (.slice A0_0 t_sizes.length c0_0)).setCell ⟨wt_27_p133.heap.size, 1, none⟩ (.slice At_33_p146 t_33.length ct_33_p146) = x := ⟨_, rfl⟩
                   have z0b36_36_p151 := Oless_35_p145_p146.out.frozenAt 0
                   have z1b36_36_p151 := Oless_35_p145_p146.out.frozenAt 1
                   have Sb36_36_p151 := Lib.hid (own_stores [(0, .slice A0_0 t_sizes.length c0_0), (1, .slice At_33_p146 t_33.length ct_33_p146)] Oless_35_p145_p146.out)
                   have Pb36_36_p151 : Hid (wb36_36_p151.ownsRow w.heap.size 31 2 (.slice (some ⟨wt_27_p133.heap.size, 0, none⟩) 1 1) 1 [.slice A0_0 t_sizes.length c0_0, .slice At_33_p146 t_33.length ct_33_p146]) := Lib.hid (by rw [← hwb36_36_p151]; exact Sb36_36_p151.out.1)
                   have Gb36_36_p151 : Hid (wt_33_p146.grownBy wb36_36_p151 (Value.slice (some ⟨wt_27_p133.heap.size, 0, none⟩) 1 1).ownBlock) := Lib.hid (by rw [← hwb36_36_p151]; exact Sb36_36_p151.out.2)
                   have HBwb36_36_p151 := Lib.hid (HBwt_33_p146.out.grown Gb36_36_p151.out HBwt_33_p146.out.size (fun q hq => (Oless_35_p145_p146.out.lt q hq).1))
                   have kt_0_0__147_p151 := cell_other kt_0_0__143_p145_p146 Gb36_36_p151.out Dless_35_t_0_p145.out
                   have kt_0_1__148_p151 := cell_other kt_0_1__144_p145_p146 Gb36_36_p151.out Dless_35_t_0_p145.out
                   have Oout_4l0_p132_p133_p145_p146_p151 := Lib.hid (own_other Oout_4l0_p132_p133_p145_p146.out Gb36_36_p151.out Dless_35_out_4l0_p145.out)
                   have Pt_33_p146_p151 := Lib.hid (own_other Pt_33_p146.out Gb36_36_p151.out (Apart.symm Dt_33_less_35_p146.out))
                   have kless_35_0_p145_p146__149_p151 : wb36_36_p151.cell? ⟨wt_27_p133.heap.size, 0, none⟩ = some (.slice A0_0 t_sizes.length c0_0) := Pb36_36_p151.out.cells rfl 0 _ rfl
                   have kless_35_1_p145_p146__150_p151 : wb36_36_p151.cell? ⟨wt_27_p133.heap.size, 1, none⟩ = some (.slice At_33_p146 t_33.length ct_33_p146) := Pb36_36_p151.out.cells rfl 1 _ rfl)
                | (have hst_27_p155 := HBw_less_35_p154.out.size
                   have Ct_27_p155 := Lib.hid ((Cells.below Mt_26.out HBw_less_35_p154.out))
                   have h1t_27_p155 : 0 + t_26.length ≤ maxLen := by have h_ := hlt_27; simp only [List.length_nil] at h_; unfold maxLen; omega
                   have h2t_27_p155 : (0 + t_26.length) * 32 ≤ 140737488355328 := by have h_ := hlt_27; simp only [List.length_nil] at h_; omega
                   refine Go.Proofs.Ytdbgmcgjklmkkaa.GoH.step_spread_own (w := w_less_35_p154) rfl (.tmp 24) (.tmp 28) 29 rfl w.heap.size 96 i0_96 (.agg #[.int .i64 0, .int .i64 0, .int .i64 0, .int .i64 0]) 4 32 Try.underlying29 hi_96 hz0_96 hz1_96 hz2_96 rfl (by decide) (some ⟨wr0.heap.size, 0, none⟩) 0 0 _ rfl Ot_22_p132_p154.out A0_1 t_26.length c0_1 (Go.Proofs.Ytdbgmcgjklmkkaa.PBan.flat t_26) rfl Qt_26.out Ct_27_p155.out (fun u hu => by obtain ⟨y_, _, hy_⟩ := List.mem_flatMap.1 hu; simp only [Go.Proofs.Ytdbgmcgjklmkkaa.PBan.Ban.cells, List.mem_cons, List.not_mem_nil, or_false] at hy_; rcases hy_ with rfl | rfl | rfl | rfl <;> rfl) h1t_27_p155 h2t_27_p155 hst_27_p155 ?_
                   intro vt_27_p155 wt_27_p155 ot_27_p155 gt_27_p155 yt_27_p155
                   obtain ⟨At_27_p155, ct_27_p155, rfl, pt_27_p155⟩ := own_pushS (f := Go.Proofs.Ytdbgmcgjklmkkaa.PBan.flat) hht_27.out (by simp [Go.Proofs.Ytdbgmcgjklmkkaa.PBan.flat]) rfl ot_27_p155
                   have Pt_27_p155 := Lib.hid pt_27_p155
                   have Yt_27_p155 := Lib.hid yt_27_p155
                   have Gt_27_p155 := Lib.hid gt_27_p155
                   have HBwt_27_p155 := Lib.hid (HBw_less_35_p154.out.grown Gt_27_p155.out hst_27_p155 (fun q hq => (Ot_22_p132_p154.out.lt q hq).1))
                   have Dt_27_out_4l0_p155 : Hid (Apart At_27_p155 _) := Lib.hid (apart_app Dt_22_out_4l0_p132.out (fun a_ ha_ => (own_lt Oout_4l0_p132_p154.out a_ ha_).2) Yt_27_p155.out)
                   have Dt_27_t_0_p155 : Hid (Apart At_27_p155 _) := Lib.hid (apart_app Dt_22_t_0_p132.out (fun a_ ha_ => by cases ha_; exact cell_lt kt_0_0__152_p154) Yt_27_p155.out)
                   have Dt_27_less_35_p155 : Hid (Apart At_27_p155 _) := Lib.hid (apart_app (Apart.symm Dless_35_t_22_p154.out) (fun a_ ha_ => by cases ha_; exact cell_lt kless_35_0_p154) Yt_27_p155.out)
                   have kt_0_0__152_p154_p155 := cell_other kt_0_0__152_p154 Gt_27_p155.out Dt_22_t_0_p132.out
                   have kt_0_1__153_p154_p155 := cell_other kt_0_1__153_p154 Gt_27_p155.out Dt_22_t_0_p132.out
                   have kless_35_0_p154_p155 := cell_other kless_35_0_p154 Gt_27_p155.out (Apart.symm Dless_35_t_22_p154.out)
                   have kless_35_1_p154_p155 := cell_other kless_35_1_p154 Gt_27_p155.out (Apart.symm Dless_35_t_22_p154.out)
                   have Oless_35_p154_p155 := Lib.hid (own_other Oless_35_p154.out Gt_27_p155.out (Apart.symm Dless_35_t_22_p154.out))
                   have Oout_4l0_p132_p154_p155 := Lib.hid (own_other Oout_4l0_p132_p154.out Gt_27_p155.out Dt_22_out_4l0_p132.out))
                | (have hst_33_p156 := HBwt_27_p155.out.size
                   have Ct_33_p156 := Lib.hid ((Cells.below Mt_32.out HBwt_27_p155.out))
                   have h1t_33_p156 : t_27.length + t_32.length ≤ maxLen := by have h_ := hlt_33; unfold maxLen; omega
                   have h2t_33_p156 : (t_27.length + t_32.length) * 32 ≤ 140737488355328 := by have h_ := hlt_33; omega
                   refine Go.Proofs.Ytdbgmcgjklmkkaa.GoH.step_spread_own (w := wt_27_p155) rfl (.tmp 29) (.tmp 34) 29 rfl w.heap.size 96 i0_96 (.agg #[.int .i64 0, .int .i64 0, .int .i64 0, .int .i64 0]) 4 32 Try.underlying29 hi_96 hz0_96 hz1_96 hz2_96 rfl (by decide) At_27_p155 ct_27_p155 t_27.length _ rfl Pt_27_p155.out At_32 t_32.length ct_32 (Go.Proofs.Ytdbgmcgjklmkkaa.PBan.flat t_32) rfl Qt_32.out Ct_33_p156.out (fun u hu => by obtain ⟨y_, _, hy_⟩ := List.mem_flatMap.1 hu; simp only [Go.Proofs.Ytdbgmcgjklmkkaa.PBan.Ban.cells, List.mem_cons, List.not_mem_nil, or_false] at hy_; rcases hy_ with rfl | rfl | rfl | rfl <;> rfl) h1t_33_p156 h2t_33_p156 hst_33_p156 ?_
                   intro vt_33_p156 wt_33_p156 ot_33_p156 gt_33_p156 yt_33_p156
                   obtain ⟨At_33_p156, ct_33_p156, rfl, pt_33_p156⟩ := own_pushS (f := Go.Proofs.Ytdbgmcgjklmkkaa.PBan.flat) hht_33.out (by simp [Go.Proofs.Ytdbgmcgjklmkkaa.PBan.flat]) rfl ot_33_p156
                   have Pt_33_p156 := Lib.hid pt_33_p156
                   have Yt_33_p156 := Lib.hid yt_33_p156
                   have Gt_33_p156 := Lib.hid gt_33_p156
                   have HBwt_33_p156 := Lib.hid (HBwt_27_p155.out.grown Gt_33_p156.out hst_33_p156 (fun q hq => (Pt_27_p155.out.lt q hq).1))
                   have Dt_33_out_4l0_p156 : Hid (Apart At_33_p156 _) := Lib.hid (apart_app Dt_27_out_4l0_p155.out (fun a_ ha_ => (own_lt Oout_4l0_p132_p154_p155.out a_ ha_).2) Yt_33_p156.out)
                   have Dt_33_t_0_p156 : Hid (Apart At_33_p156 _) := Lib.hid (apart_app Dt_27_t_0_p155.out (fun a_ ha_ => by cases ha_; exact cell_lt kt_0_0__152_p154_p155) Yt_33_p156.out)
                   have Dt_33_less_35_p156 : Hid (Apart At_33_p156 _) := Lib.hid (apart_app Dt_27_less_35_p155.out (fun a_ ha_ => by cases ha_; exact cell_lt kless_35_0_p154_p155) Yt_33_p156.out)
                   have kt_0_0__152_p154_p155_p156 := cell_other kt_0_0__152_p154_p155 Gt_33_p156.out Dt_27_t_0_p155.out
                   have kt_0_1__153_p154_p155_p156 := cell_other kt_0_1__153_p154_p155 Gt_33_p156.out Dt_27_t_0_p155.out
                   have kless_35_0_p154_p155_p156 := cell_other kless_35_0_p154_p155 Gt_33_p156.out Dt_27_less_35_p155.out
                   have kless_35_1_p154_p155_p156 := cell_other kless_35_1_p154_p155 Gt_33_p156.out Dt_27_less_35_p155.out
                   have Oless_35_p154_p155_p156 := Lib.hid (own_other Oless_35_p154_p155.out Gt_33_p156.out Dt_27_less_35_p155.out)
                   have Oout_4l0_p132_p154_p155_p156 := Lib.hid (own_other Oout_4l0_p132_p154_p155.out Gt_33_p156.out Dt_27_out_4l0_p155.out)
                   obtain ⟨wb36_36_p161, hwb36_36_p161⟩ : ∃ x, ((wt_33_p156).setCell ⟨w_t_22_p132.heap.size, 0, none⟩ (.slice A0_0 t_sizes.length c0_0)).setCell ⟨w_t_22_p132.heap.size, 1, none⟩ (.slice At_33_p156 t_33.length ct_33_p156) = x := ⟨_, rfl⟩
                   have z0b36_36_p161 := Oless_35_p154_p155_p156.out.frozenAt 0
                   have z1b36_36_p161 := Oless_35_p154_p155_p156.out.frozenAt 1
                   have Sb36_36_p161 := Lib.hid (own_stores [(0, .slice A0_0 t_sizes.length c0_0), (1, .slice At_33_p156 t_33.length ct_33_p156)] Oless_35_p154_p155_p156.out)
                   have Pb36_36_p161 : Hid (wb36_36_p161.ownsRow w.heap.size 31 2 (.slice (some ⟨w_t_22_p132.heap.size, 0, none⟩) 1 1) 1 [.slice A0_0 t_sizes.length c0_0, .slice At_33_p156 t_33.length ct_33_p156]) := Lib.hid (by rw [← hwb36_36_p161]; exact Sb36_36_p161.out.1)
                   have Gb36_36_p161 : Hid (wt_33_p156.grownBy wb36_36_p161 (Value.slice (some ⟨w_t_22_p132.heap.size, 0, none⟩) 1 1).ownBlock) := Lib.hid (by rw [← hwb36_36_p161]; exact Sb36_36_p161.out.2)
                   have HBwb36_36_p161 := Lib.hid (HBwt_33_p156.out.grown Gb36_36_p161.out HBwt_33_p156.out.size (fun q hq => (Oless_35_p154_p155_p156.out.lt q hq).1))
                   have kt_0_0__157_p161 := cell_other kt_0_0__152_p154_p155_p156 Gb36_36_p161.out Dless_35_t_0_p154.out
                   have kt_0_1__158_p161 := cell_other kt_0_1__153_p154_p155_p156 Gb36_36_p161.out Dless_35_t_0_p154.out
                   have Oout_4l0_p132_p154_p155_p156_p161 := Lib.hid (own_other Oout_4l0_p132_p154_p155_p156.out Gb36_36_p161.out Dless_35_out_4l0_p154.out)
                   have Pt_33_p156_p161 := Lib.hid (own_other Pt_33_p156.out Gb36_36_p161.out (Apart.symm Dt_33_less_35_p156.out))
                   have kless_35_0_p154_p155_p156__159_p161 : wb36_36_p161.cell? ⟨w_t_22_p132.heap.size, 0, none⟩ = some (.slice A0_0 t_sizes.length c0_0) := Pb36_36_p161.out.cells rfl 0 _ rfl
                   have kless_35_1_p154_p155_p156__160_p161 : wb36_36_p161.cell? ⟨w_t_22_p132.heap.size, 1, none⟩ = some (.slice At_33_p156 t_33.length ct_33_p156) := Pb36_36_p161.out.cells rfl 1 _ rfl)
                | (have hst_27_p170 := HBw_t_22_p169.out.size
                   have Ct_27_p170 := Lib.hid ((Cells.below Mt_26.out HBw_t_22_p169.out))
                   have h1t_27_p170 : 0 + t_26.length ≤ maxLen := by have h_ := hlt_27; simp only [List.length_nil] at h_; unfold maxLen; omega
                   have h2t_27_p170 : (0 + t_26.length) * 32 ≤ 140737488355328 := by have h_ := hlt_27; simp only [List.length_nil] at h_; omega
                   refine Go.Proofs.Ytdbgmcgjklmkkaa.GoH.step_spread_own (w := w_t_22_p169) rfl (.tmp 24) (.tmp 28) 29 rfl w.heap.size 96 i0_96 (.agg #[.int .i64 0, .int .i64 0, .int .i64 0, .int .i64 0]) 4 32 Try.underlying29 hi_96 hz0_96 hz1_96 hz2_96 rfl (by decide) (some ⟨w_less_35_p164.heap.size, 0, none⟩) 0 0 _ rfl Ot_22_p169.out A0_1 t_26.length c0_1 (Go.Proofs.Ytdbgmcgjklmkkaa.PBan.flat t_26) rfl Qt_26.out Ct_27_p170.out (fun u hu => by obtain ⟨y_, _, hy_⟩ := List.mem_flatMap.1 hu; simp only [Go.Proofs.Ytdbgmcgjklmkkaa.PBan.Ban.cells, List.mem_cons, List.not_mem_nil, or_false] at hy_; rcases hy_ with rfl | rfl | rfl | rfl <;> rfl) h1t_27_p170 h2t_27_p170 hst_27_p170 ?_
                   intro vt_27_p170 wt_27_p170 ot_27_p170 gt_27_p170 yt_27_p170
                   obtain ⟨At_27_p170, ct_27_p170, rfl, pt_27_p170⟩ := own_pushS (f := Go.Proofs.Ytdbgmcgjklmkkaa.PBan.flat) hht_27.out (by simp [Go.Proofs.Ytdbgmcgjklmkkaa.PBan.flat]) rfl ot_27_p170
                   have Pt_27_p170 := Lib.hid pt_27_p170
                   have Yt_27_p170 := Lib.hid yt_27_p170
                   have Gt_27_p170 := Lib.hid gt_27_p170
                   have HBwt_27_p170 := Lib.hid (HBw_t_22_p169.out.grown Gt_27_p170.out hst_27_p170 (fun q hq => (Ot_22_p169.out.lt q hq).1))
                   have Dt_27_out_4l0_p170 : Hid (Apart At_27_p170 _) := Lib.hid (apart_app Dt_22_out_4l0_p169.out (fun a_ ha_ => (own_lt Oout_4l0_p164_p169.out a_ ha_).2) Yt_27_p170.out)
                   have Dt_27_t_0_p170 : Hid (Apart At_27_p170 _) := Lib.hid (apart_app Dt_22_t_0_p169.out (fun a_ ha_ => by cases ha_; exact cell_lt kt_0_0__165_p169) Yt_27_p170.out)
                   have Dt_27_less_35_p170 : Hid (Apart At_27_p170 _) := Lib.hid (apart_app Dt_22_less_35_p169.out (fun a_ ha_ => by cases ha_; exact cell_lt kless_35_0_p164__167_p169) Yt_27_p170.out)
                   have kt_0_0__165_p169_p170 := cell_other kt_0_0__165_p169 Gt_27_p170.out Dt_22_t_0_p169.out
                   have kt_0_1__166_p169_p170 := cell_other kt_0_1__166_p169 Gt_27_p170.out Dt_22_t_0_p169.out
                   have kless_35_0_p164__167_p169_p170 := cell_other kless_35_0_p164__167_p169 Gt_27_p170.out Dt_22_less_35_p169.out
                   have kless_35_1_p164__168_p169_p170 := cell_other kless_35_1_p164__168_p169 Gt_27_p170.out Dt_22_less_35_p169.out
                   have Oless_35_p164_p169_p170 := Lib.hid (own_other Oless_35_p164_p169.out Gt_27_p170.out Dt_22_less_35_p169.out)
                   have Oout_4l0_p164_p169_p170 := Lib.hid (own_other Oout_4l0_p164_p169.out Gt_27_p170.out Dt_22_out_4l0_p169.out))
                | (have hst_33_p171 := HBwt_27_p170.out.size
                   have Ct_33_p171 := Lib.hid ((Cells.below Mt_32.out HBwt_27_p170.out))
                   have h1t_33_p171 : t_27.length + t_32.length ≤ maxLen := by have h_ := hlt_33; unfold maxLen; omega
                   have h2t_33_p171 : (t_27.length + t_32.length) * 32 ≤ 140737488355328 := by have h_ := hlt_33; omega
                   refine Go.Proofs.Ytdbgmcgjklmkkaa.GoH.step_spread_own (w := wt_27_p170) rfl (.tmp 29) (.tmp 34) 29 rfl w.heap.size 96 i0_96 (.agg #[.int .i64 0, .int .i64 0, .int .i64 0, .int .i64 0]) 4 32 Try.underlying29 hi_96 hz0_96 hz1_96 hz2_96 rfl (by decide) At_27_p170 ct_27_p170 t_27.length _ rfl Pt_27_p170.out At_32 t_32.length ct_32 (Go.Proofs.Ytdbgmcgjklmkkaa.PBan.flat t_32) rfl Qt_32.out Ct_33_p171.out (fun u hu => by obtain ⟨y_, _, hy_⟩ := List.mem_flatMap.1 hu; simp only [Go.Proofs.Ytdbgmcgjklmkkaa.PBan.Ban.cells, List.mem_cons, List.not_mem_nil, or_false] at hy_; rcases hy_ with rfl | rfl | rfl | rfl <;> rfl) h1t_33_p171 h2t_33_p171 hst_33_p171 ?_
                   intro vt_33_p171 wt_33_p171 ot_33_p171 gt_33_p171 yt_33_p171
                   obtain ⟨At_33_p171, ct_33_p171, rfl, pt_33_p171⟩ := own_pushS (f := Go.Proofs.Ytdbgmcgjklmkkaa.PBan.flat) hht_33.out (by simp [Go.Proofs.Ytdbgmcgjklmkkaa.PBan.flat]) rfl ot_33_p171
                   have Pt_33_p171 := Lib.hid pt_33_p171
                   have Yt_33_p171 := Lib.hid yt_33_p171
                   have Gt_33_p171 := Lib.hid gt_33_p171
                   have HBwt_33_p171 := Lib.hid (HBwt_27_p170.out.grown Gt_33_p171.out hst_33_p171 (fun q hq => (Pt_27_p170.out.lt q hq).1))
                   have Dt_33_out_4l0_p171 : Hid (Apart At_33_p171 _) := Lib.hid (apart_app Dt_27_out_4l0_p170.out (fun a_ ha_ => (own_lt Oout_4l0_p164_p169_p170.out a_ ha_).2) Yt_33_p171.out)
                   have Dt_33_t_0_p171 : Hid (Apart At_33_p171 _) := Lib.hid (apart_app Dt_27_t_0_p170.out (fun a_ ha_ => by cases ha_; exact cell_lt kt_0_0__165_p169_p170) Yt_33_p171.out)
                   have Dt_33_less_35_p171 : Hid (Apart At_33_p171 _) := Lib.hid (apart_app Dt_27_less_35_p170.out (fun a_ ha_ => by cases ha_; exact cell_lt kless_35_0_p164__167_p169_p170) Yt_33_p171.out)
                   have kt_0_0__165_p169_p170_p171 := cell_other kt_0_0__165_p169_p170 Gt_33_p171.out Dt_27_t_0_p170.out
                   have kt_0_1__166_p169_p170_p171 := cell_other kt_0_1__166_p169_p170 Gt_33_p171.out Dt_27_t_0_p170.out
                   have kless_35_0_p164__167_p169_p170_p171 := cell_other kless_35_0_p164__167_p169_p170 Gt_33_p171.out Dt_27_less_35_p170.out
                   have kless_35_1_p164__168_p169_p170_p171 := cell_other kless_35_1_p164__168_p169_p170 Gt_33_p171.out Dt_27_less_35_p170.out
                   have Oless_35_p164_p169_p170_p171 := Lib.hid (own_other Oless_35_p164_p169_p170.out Gt_33_p171.out Dt_27_less_35_p170.out)
                   have Oout_4l0_p164_p169_p170_p171 := Lib.hid (own_other Oout_4l0_p164_p169_p170.out Gt_33_p171.out Dt_27_out_4l0_p170.out)
                   obtain ⟨wb36_36_p176, hwb36_36_p176⟩ : ∃ x, ((wt_33_p171).setCell ⟨wr0.heap.size, 0, none⟩ (.slice A0_0 t_sizes.length c0_0)).setCell ⟨wr0.heap.size, 1, none⟩ (.slice At_33_p171 t_33.length ct_33_p171) = x := ⟨_, rfl⟩
                   have z0b36_36_p176 := Oless_35_p164_p169_p170_p171.out.frozenAt 0
                   have z1b36_36_p176 := Oless_35_p164_p169_p170_p171.out.frozenAt 1
                   have Sb36_36_p176 := Lib.hid (own_stores [(0, .slice A0_0 t_sizes.length c0_0), (1, .slice At_33_p171 t_33.length ct_33_p171)] Oless_35_p164_p169_p170_p171.out)
                   have Pb36_36_p176 : Hid (wb36_36_p176.ownsRow w.heap.size 31 2 (.slice (some ⟨wr0.heap.size, 0, none⟩) 1 1) 1 [.slice A0_0 t_sizes.length c0_0, .slice At_33_p171 t_33.length ct_33_p171]) := Lib.hid (by rw [← hwb36_36_p176]; exact Sb36_36_p176.out.1)
                   have Gb36_36_p176 : Hid (wt_33_p171.grownBy wb36_36_p176 (Value.slice (some ⟨wr0.heap.size, 0, none⟩) 1 1).ownBlock) := Lib.hid (by rw [← hwb36_36_p176]; exact Sb36_36_p176.out.2)
                   have HBwb36_36_p176 := Lib.hid (HBwt_33_p171.out.grown Gb36_36_p176.out HBwt_33_p171.out.size (fun q hq => (Oless_35_p164_p169_p170_p171.out.lt q hq).1))
                   have kt_0_0__172_p176 := cell_other kt_0_0__165_p169_p170_p171 Gb36_36_p176.out Dless_35_t_0_p164.out
                   have kt_0_1__173_p176 := cell_other kt_0_1__166_p169_p170_p171 Gb36_36_p176.out Dless_35_t_0_p164.out
                   have Oout_4l0_p164_p169_p170_p171_p176 := Lib.hid (own_other Oout_4l0_p164_p169_p170_p171.out Gb36_36_p176.out Dless_35_out_4l0_p164.out)
                   have Pt_33_p171_p176 := Lib.hid (own_other Pt_33_p171.out Gb36_36_p176.out (Apart.symm Dt_33_less_35_p171.out))
                   have kless_35_0_p164__174_p176 : wb36_36_p176.cell? ⟨wr0.heap.size, 0, none⟩ = some (.slice A0_0 t_sizes.length c0_0) := Pb36_36_p176.out.cells rfl 0 _ rfl
                   have kless_35_1_p164__175_p176 : wb36_36_p176.cell? ⟨wr0.heap.size, 1, none⟩ = some (.slice At_33_p171 t_33.length ct_33_p171) := Pb36_36_p176.out.cells rfl 1 _ rfl))
          · skip
            replace H := bind_hid H
            obtain ⟨t_38, qt_38, H⟩ := H
            go_wp2_with fail
            go_at_call 69
            refine (Go.Proofs.Ytdbgmcgjklmkkaa.GsL6With.C fuel (t_sizes) (t_33) ((-1)) (0) A0_0 c0_0 At_33_p134 ct_33_p134 _   (Lib.hid (Cells.below M0_0.out HBwb36_36_p142.out)) N0_0 (Lib.hid (own_cells Pt_33_p134_p137_p142.out)) (Lib.hid (own_max Pt_33_p134_p137_p142.out)) qt_38).mono ?_
            rintro e_t_38 wt_38 ⟨rfl, bt_38⟩
            have HBwt_38 := Lib.hid (Below.step HBwb36_36_p142.out bt_38)
            replace kt_0_0__138_p142 := cell_below bt_38 kt_0_0__138_p142
            replace kt_0_1__139_p142 := cell_below bt_38 kt_0_1__139_p142
            replace kless_35_0_p137__140_p142 := cell_below bt_38 kless_35_0_p137__140_p142
            replace kless_35_1_p137__141_p142 := cell_below bt_38 kless_35_1_p137__141_p142
            replace Oout_4l0_p132_p133_p134_p137_p142 := Lib.hid (own_below Oout_4l0_p132_p133_p134_p137_p142.out bt_38)
            replace Pt_33_p134_p137_p142 := Lib.hid (own_below Pt_33_p134_p137_p142.out bt_38)
            replace Pb36_36_p142 := Lib.hid (own_below Pb36_36_p142.out bt_38)
            clear bt_38
            replace H := let_hid H
            obtain ⟨t_40, ht_40, H⟩ := H
            cases t_40 with
            | false =>
              replace H := ite_f H
              replace H := let_hid H
              obtain ⟨t_47, ht_47, H⟩ := H
              obtain rfl := ht_31.symm.trans ht_47
              replace H := app_hid H
              go_wp2_with fail
              go_roundg m0
              case measure => omega
              case rel => exact ⟨_, _, _, _, rfl, rfl, H, HBwt_38, kt_0_0__138_p142, kt_0_1__139_p142, Oout_4l0_p132_p133_p134_p137_p142, Lib.hid Dout_4l0_t_0.out⟩
            | true =>
              replace H := ite_t H
              obtain ⟨w_t_43, hw_t_43⟩ : ∃ x, wt_38.alloc (.cells #[.int .i64 i_6l0] 3) = x := ⟨_, rfl⟩
              have bw_t_43 : Below wt_38.heap.size wt_38 w_t_43 := by rw [← hw_t_43]; exact (Below.refl _ _).alloc (Nat.le_refl _) _
              have HBw_t_43 := Lib.hid (Below.step HBwt_38.out bw_t_43)
              have kt_0_0__177 := cell_below bw_t_43 kt_0_0__138_p142
              have kt_0_1__178 := cell_below bw_t_43 kt_0_1__139_p142
              have kless_35_0_p137__179 := cell_below bw_t_43 kless_35_0_p137__140_p142
              have kless_35_1_p137__180 := cell_below bw_t_43 kless_35_1_p137__141_p142
              replace Oout_4l0_p132_p133_p134_p137_p142 := Lib.hid (own_below Oout_4l0_p132_p133_p134_p137_p142.out bw_t_43)
              replace Pt_33_p134_p137_p142 := Lib.hid (own_below Pt_33_p134_p137_p142.out bw_t_43)
              replace Pb36_36_p142 := Lib.hid (own_below Pb36_36_p142.out bw_t_43)
              clear bw_t_43
              replace H := guard_hid H
              obtain ⟨hlt_44, H⟩ := H
              replace H := let_hid H
              obtain ⟨t_44, ht_44, H⟩ := H
              have hht_44 := Lib.hid ht_44
              clear ht_44
              have hst_44 := HBw_t_43.out.size
              go_wp2_with (at_builtin; refine wpList_append_own_at _ rfl _ _ 22 rfl w.heap.size 3 i0_3 (.int .i64 0) 1 8 Try.underlying22 hi_3 hz0_3 hz1_3 hz2_3 rfl (by decide) _ _ _ rfl Oout_4l0_p132_p133_p134_p137_p142.out ⟨wt_38.heap.size, 0, none⟩ 1 1 [.int .i64 i_6l0] rfl rfl (news_new hw_t_43) (one_cells rfl) (by unfold maxLen; omega) (by omega) hst_44 ?_; intro vt_44 wt_44 ot_44 gt_44 zt_44 yt_44; clear zt_44; obtain ⟨qt_44, ct_44, rfl, pt_44⟩ := own_push hht_44.out (Go.Proofs.Ytdbgmcgjklmkkaa.HelpInt.iv_snoc _ _) rfl ot_44; have Pt_44 := Lib.hid pt_44; have Yt_44 := Lib.hid yt_44; have Gt_44 := Lib.hid gt_44; clear ot_44 gt_44 pt_44 yt_44; refine stop_in ?_)
              refine stop_out ?_
              have HBwt_44 := Lib.hid (HBw_t_43.out.grown Gt_44.out hst_44 (fun q hq => (Oout_4l0_p132_p133_p134_p137_p142.out.lt q hq).1))
              clear hst_44
              have Dt_44_t_0 : Hid (Apart (some ⟨qt_44, 0, none⟩) _) := Lib.hid (apart_app Dout_4l0_t_0.out (fun a_ ha_ => by cases ha_; exact cell_lt kt_0_0__177) Yt_44.out)
              have Dt_44_t_33 : Hid (Apart (some ⟨qt_44, 0, none⟩) _) := Lib.hid (apart_app (Apart.symm Dt_33_out_4l0_p134.out) (fun a_ ha_ => (own_lt Pt_33_p134_p137_p142.out a_ ha_).2) Yt_44.out)
              have Dt_44_less_35 : Hid (Apart (some ⟨qt_44, 0, none⟩) _) := Lib.hid (apart_app (Apart.symm Dless_35_out_4l0_p137.out) (fun a_ ha_ => by cases ha_; exact cell_lt kless_35_0_p137__179) Yt_44.out)
              replace kt_0_0__177 := cell_other kt_0_0__177 Gt_44.out Dout_4l0_t_0.out
              replace kt_0_1__178 := cell_other kt_0_1__178 Gt_44.out Dout_4l0_t_0.out
              replace kless_35_0_p137__179 := cell_other kless_35_0_p137__179 Gt_44.out (Apart.symm Dless_35_out_4l0_p137.out)
              replace kless_35_1_p137__180 := cell_other kless_35_1_p137__180 Gt_44.out (Apart.symm Dless_35_out_4l0_p137.out)
              replace Pb36_36_p142 := Lib.hid (own_other Pb36_36_p142.out Gt_44.out (Apart.symm Dless_35_out_4l0_p137.out))
              replace Pt_33_p134_p137_p142 := Lib.hid (own_other Pt_33_p134_p137_p142.out Gt_44.out (Apart.symm Dt_33_out_4l0_p134.out))
              clear kt_0_0__138_p142 kt_0_1__139_p142 kless_35_0_p137__140_p142 kless_35_1_p137__141_p142
              clear Oout_4l0_p132_p133_p134_p137_p142 Yt_44 Gt_44
              replace H := let_hid H
              obtain ⟨t_47, ht_47, H⟩ := H
              obtain rfl := ht_31.symm.trans ht_47
              replace H := app_hid H
              go_wp2_with fail
              go_roundg m0
              case measure => omega
              case rel => exact ⟨_, _, _, _, rfl, rfl, H, HBwt_44, kt_0_0__177, kt_0_1__178, Pt_44, Lib.hid Dt_44_t_0.out⟩
          · skip
            replace H := bind_hid H
            obtain ⟨t_38, qt_38, H⟩ := H
            go_wp2_with fail
            go_at_call 69
            refine (Go.Proofs.Ytdbgmcgjklmkkaa.GsL6With.C fuel (t_sizes) (t_33) ((-1)) (0) A0_0 c0_0 At_33_p146 ct_33_p146 _   (Lib.hid (Cells.below M0_0.out HBwb36_36_p151.out)) N0_0 (Lib.hid (own_cells Pt_33_p146_p151.out)) (Lib.hid (own_max Pt_33_p146_p151.out)) qt_38).mono ?_
            rintro e_t_38 wt_38 ⟨rfl, bt_38⟩
            have HBwt_38 := Lib.hid (Below.step HBwb36_36_p151.out bt_38)
            replace kt_0_0__147_p151 := cell_below bt_38 kt_0_0__147_p151
            replace kt_0_1__148_p151 := cell_below bt_38 kt_0_1__148_p151
            replace kless_35_0_p145_p146__149_p151 := cell_below bt_38 kless_35_0_p145_p146__149_p151
            replace kless_35_1_p145_p146__150_p151 := cell_below bt_38 kless_35_1_p145_p146__150_p151
            replace Oout_4l0_p132_p133_p145_p146_p151 := Lib.hid (own_below Oout_4l0_p132_p133_p145_p146_p151.out bt_38)
            replace Pt_33_p146_p151 := Lib.hid (own_below Pt_33_p146_p151.out bt_38)
            replace Pb36_36_p151 := Lib.hid (own_below Pb36_36_p151.out bt_38)
            clear bt_38
            replace H := let_hid H
            obtain ⟨t_40, ht_40, H⟩ := H
            cases t_40 with
            | false =>
              replace H := ite_f H
              replace H := let_hid H
              obtain ⟨t_47, ht_47, H⟩ := H
              obtain rfl := ht_31.symm.trans ht_47
              replace H := app_hid H
              go_wp2_with fail
              go_roundg m0
              case measure => omega
              case rel => exact ⟨_, _, _, _, rfl, rfl, H, HBwt_38, kt_0_0__147_p151, kt_0_1__148_p151, Oout_4l0_p132_p133_p145_p146_p151, Lib.hid Dout_4l0_t_0.out⟩
            | true =>
              replace H := ite_t H
              obtain ⟨w_t_43, hw_t_43⟩ : ∃ x, wt_38.alloc (.cells #[.int .i64 i_6l0] 3) = x := ⟨_, rfl⟩
              have bw_t_43 : Below wt_38.heap.size wt_38 w_t_43 := by rw [← hw_t_43]; exact (Below.refl _ _).alloc (Nat.le_refl _) _
              have HBw_t_43 := Lib.hid (Below.step HBwt_38.out bw_t_43)
              have kt_0_0__181 := cell_below bw_t_43 kt_0_0__147_p151
              have kt_0_1__182 := cell_below bw_t_43 kt_0_1__148_p151
              have kless_35_0_p145_p146__183 := cell_below bw_t_43 kless_35_0_p145_p146__149_p151
              have kless_35_1_p145_p146__184 := cell_below bw_t_43 kless_35_1_p145_p146__150_p151
              replace Oout_4l0_p132_p133_p145_p146_p151 := Lib.hid (own_below Oout_4l0_p132_p133_p145_p146_p151.out bw_t_43)
              replace Pt_33_p146_p151 := Lib.hid (own_below Pt_33_p146_p151.out bw_t_43)
              replace Pb36_36_p151 := Lib.hid (own_below Pb36_36_p151.out bw_t_43)
              clear bw_t_43
              replace H := guard_hid H
              obtain ⟨hlt_44, H⟩ := H
              replace H := let_hid H
              obtain ⟨t_44, ht_44, H⟩ := H
              have hht_44 := Lib.hid ht_44
              clear ht_44
              have hst_44 := HBw_t_43.out.size
              go_wp2_with (at_builtin; refine wpList_append_own_at _ rfl _ _ 22 rfl w.heap.size 3 i0_3 (.int .i64 0) 1 8 Try.underlying22 hi_3 hz0_3 hz1_3 hz2_3 rfl (by decide) _ _ _ rfl Oout_4l0_p132_p133_p145_p146_p151.out ⟨wt_38.heap.size, 0, none⟩ 1 1 [.int .i64 i_6l0] rfl rfl (news_new hw_t_43) (one_cells rfl) (by unfold maxLen; omega) (by omega) hst_44 ?_; intro vt_44 wt_44 ot_44 gt_44 zt_44 yt_44; clear zt_44; obtain ⟨qt_44, ct_44, rfl, pt_44⟩ := own_push hht_44.out (Go.Proofs.Ytdbgmcgjklmkkaa.HelpInt.iv_snoc _ _) rfl ot_44; have Pt_44 := Lib.hid pt_44; have Yt_44 := Lib.hid yt_44; have Gt_44 := Lib.hid gt_44; clear ot_44 gt_44 pt_44 yt_44; refine stop_in ?_)
              refine stop_out ?_
              have HBwt_44 := Lib.hid (HBw_t_43.out.grown Gt_44.out hst_44 (fun q hq => (Oout_4l0_p132_p133_p145_p146_p151.out.lt q hq).1))
              clear hst_44
              have Dt_44_t_0 : Hid (Apart (some ⟨qt_44, 0, none⟩) _) := Lib.hid (apart_app Dout_4l0_t_0.out (fun a_ ha_ => by cases ha_; exact cell_lt kt_0_0__181) Yt_44.out)
              have Dt_44_less_35 : Hid (Apart (some ⟨qt_44, 0, none⟩) _) := Lib.hid (apart_app (Apart.symm Dless_35_out_4l0_p145.out) (fun a_ ha_ => by cases ha_; exact cell_lt kless_35_0_p145_p146__183) Yt_44.out)
              have Dt_44_t_33 : Hid (Apart (some ⟨qt_44, 0, none⟩) _) := Lib.hid (apart_app (Apart.symm Dt_33_out_4l0_p146.out) (fun a_ ha_ => (own_lt Pt_33_p146_p151.out a_ ha_).2) Yt_44.out)
              replace kt_0_0__181 := cell_other kt_0_0__181 Gt_44.out Dout_4l0_t_0.out
              replace kt_0_1__182 := cell_other kt_0_1__182 Gt_44.out Dout_4l0_t_0.out
              replace kless_35_0_p145_p146__183 := cell_other kless_35_0_p145_p146__183 Gt_44.out (Apart.symm Dless_35_out_4l0_p145.out)
              replace kless_35_1_p145_p146__184 := cell_other kless_35_1_p145_p146__184 Gt_44.out (Apart.symm Dless_35_out_4l0_p145.out)
              replace Pb36_36_p151 := Lib.hid (own_other Pb36_36_p151.out Gt_44.out (Apart.symm Dless_35_out_4l0_p145.out))
              replace Pt_33_p146_p151 := Lib.hid (own_other Pt_33_p146_p151.out Gt_44.out (Apart.symm Dt_33_out_4l0_p146.out))
              clear kt_0_0__147_p151 kt_0_1__148_p151 kless_35_0_p145_p146__149_p151 kless_35_1_p145_p146__150_p151
              clear Oout_4l0_p132_p133_p145_p146_p151 Yt_44 Gt_44
              replace H := let_hid H
              obtain ⟨t_47, ht_47, H⟩ := H
              obtain rfl := ht_31.symm.trans ht_47
              replace H := app_hid H
              go_wp2_with fail
              go_roundg m0
              case measure => omega
              case rel => exact ⟨_, _, _, _, rfl, rfl, H, HBwt_44, kt_0_0__181, kt_0_1__182, Pt_44, Lib.hid Dt_44_t_0.out⟩
          · skip
            replace H := bind_hid H
            obtain ⟨t_38, qt_38, H⟩ := H
            go_wp2_with fail
            go_at_call 69
            refine (Go.Proofs.Ytdbgmcgjklmkkaa.GsL6With.C fuel (t_sizes) (t_33) ((-1)) (0) A0_0 c0_0 At_33_p156 ct_33_p156 _   (Lib.hid (Cells.below M0_0.out HBwb36_36_p161.out)) N0_0 (Lib.hid (own_cells Pt_33_p156_p161.out)) (Lib.hid (own_max Pt_33_p156_p161.out)) qt_38).mono ?_
            rintro e_t_38 wt_38 ⟨rfl, bt_38⟩
            have HBwt_38 := Lib.hid (Below.step HBwb36_36_p161.out bt_38)
            replace kt_0_0__157_p161 := cell_below bt_38 kt_0_0__157_p161
            replace kt_0_1__158_p161 := cell_below bt_38 kt_0_1__158_p161
            replace kless_35_0_p154_p155_p156__159_p161 := cell_below bt_38 kless_35_0_p154_p155_p156__159_p161
            replace kless_35_1_p154_p155_p156__160_p161 := cell_below bt_38 kless_35_1_p154_p155_p156__160_p161
            replace Oout_4l0_p132_p154_p155_p156_p161 := Lib.hid (own_below Oout_4l0_p132_p154_p155_p156_p161.out bt_38)
            replace Pt_33_p156_p161 := Lib.hid (own_below Pt_33_p156_p161.out bt_38)
            replace Pb36_36_p161 := Lib.hid (own_below Pb36_36_p161.out bt_38)
            clear bt_38
            replace H := let_hid H
            obtain ⟨t_40, ht_40, H⟩ := H
            cases t_40 with
            | false =>
              replace H := ite_f H
              replace H := let_hid H
              obtain ⟨t_47, ht_47, H⟩ := H
              obtain rfl := ht_31.symm.trans ht_47
              replace H := app_hid H
              go_wp2_with fail
              go_roundg m0
              case measure => omega
              case rel => exact ⟨_, _, _, _, rfl, rfl, H, HBwt_38, kt_0_0__157_p161, kt_0_1__158_p161, Oout_4l0_p132_p154_p155_p156_p161, Lib.hid Dout_4l0_t_0.out⟩
            | true =>
              replace H := ite_t H
              obtain ⟨w_t_43, hw_t_43⟩ : ∃ x, wt_38.alloc (.cells #[.int .i64 i_6l0] 3) = x := ⟨_, rfl⟩
              have bw_t_43 : Below wt_38.heap.size wt_38 w_t_43 := by rw [← hw_t_43]; exact (Below.refl _ _).alloc (Nat.le_refl _) _
              have HBw_t_43 := Lib.hid (Below.step HBwt_38.out bw_t_43)
              have kt_0_0__185 := cell_below bw_t_43 kt_0_0__157_p161
              have kt_0_1__186 := cell_below bw_t_43 kt_0_1__158_p161
              have kless_35_0_p154_p155_p156__187 := cell_below bw_t_43 kless_35_0_p154_p155_p156__159_p161
              have kless_35_1_p154_p155_p156__188 := cell_below bw_t_43 kless_35_1_p154_p155_p156__160_p161
              replace Oout_4l0_p132_p154_p155_p156_p161 := Lib.hid (own_below Oout_4l0_p132_p154_p155_p156_p161.out bw_t_43)
              replace Pt_33_p156_p161 := Lib.hid (own_below Pt_33_p156_p161.out bw_t_43)
              replace Pb36_36_p161 := Lib.hid (own_below Pb36_36_p161.out bw_t_43)
              clear bw_t_43
              replace H := guard_hid H
              obtain ⟨hlt_44, H⟩ := H
              replace H := let_hid H
              obtain ⟨t_44, ht_44, H⟩ := H
              have hht_44 := Lib.hid ht_44
              clear ht_44
              have hst_44 := HBw_t_43.out.size
              go_wp2_with (at_builtin; refine wpList_append_own_at _ rfl _ _ 22 rfl w.heap.size 3 i0_3 (.int .i64 0) 1 8 Try.underlying22 hi_3 hz0_3 hz1_3 hz2_3 rfl (by decide) _ _ _ rfl Oout_4l0_p132_p154_p155_p156_p161.out ⟨wt_38.heap.size, 0, none⟩ 1 1 [.int .i64 i_6l0] rfl rfl (news_new hw_t_43) (one_cells rfl) (by unfold maxLen; omega) (by omega) hst_44 ?_; intro vt_44 wt_44 ot_44 gt_44 zt_44 yt_44; clear zt_44; obtain ⟨qt_44, ct_44, rfl, pt_44⟩ := own_push hht_44.out (Go.Proofs.Ytdbgmcgjklmkkaa.HelpInt.iv_snoc _ _) rfl ot_44; have Pt_44 := Lib.hid pt_44; have Yt_44 := Lib.hid yt_44; have Gt_44 := Lib.hid gt_44; clear ot_44 gt_44 pt_44 yt_44; refine stop_in ?_)
              refine stop_out ?_
              have HBwt_44 := Lib.hid (HBw_t_43.out.grown Gt_44.out hst_44 (fun q hq => (Oout_4l0_p132_p154_p155_p156_p161.out.lt q hq).1))
              clear hst_44
              have Dt_44_t_0 : Hid (Apart (some ⟨qt_44, 0, none⟩) _) := Lib.hid (apart_app Dout_4l0_t_0.out (fun a_ ha_ => by cases ha_; exact cell_lt kt_0_0__185) Yt_44.out)
              have Dt_44_less_35 : Hid (Apart (some ⟨qt_44, 0, none⟩) _) := Lib.hid (apart_app (Apart.symm Dless_35_out_4l0_p154.out) (fun a_ ha_ => by cases ha_; exact cell_lt kless_35_0_p154_p155_p156__187) Yt_44.out)
              have Dt_44_t_33 : Hid (Apart (some ⟨qt_44, 0, none⟩) _) := Lib.hid (apart_app (Apart.symm Dt_33_out_4l0_p156.out) (fun a_ ha_ => (own_lt Pt_33_p156_p161.out a_ ha_).2) Yt_44.out)
              replace kt_0_0__185 := cell_other kt_0_0__185 Gt_44.out Dout_4l0_t_0.out
              replace kt_0_1__186 := cell_other kt_0_1__186 Gt_44.out Dout_4l0_t_0.out
              replace kless_35_0_p154_p155_p156__187 := cell_other kless_35_0_p154_p155_p156__187 Gt_44.out (Apart.symm Dless_35_out_4l0_p154.out)
              replace kless_35_1_p154_p155_p156__188 := cell_other kless_35_1_p154_p155_p156__188 Gt_44.out (Apart.symm Dless_35_out_4l0_p154.out)
              replace Pb36_36_p161 := Lib.hid (own_other Pb36_36_p161.out Gt_44.out (Apart.symm Dless_35_out_4l0_p154.out))
              replace Pt_33_p156_p161 := Lib.hid (own_other Pt_33_p156_p161.out Gt_44.out (Apart.symm Dt_33_out_4l0_p156.out))
              clear kt_0_0__157_p161 kt_0_1__158_p161 kless_35_0_p154_p155_p156__159_p161 kless_35_1_p154_p155_p156__160_p161
              clear Oout_4l0_p132_p154_p155_p156_p161 Yt_44 Gt_44
              replace H := let_hid H
              obtain ⟨t_47, ht_47, H⟩ := H
              obtain rfl := ht_31.symm.trans ht_47
              replace H := app_hid H
              go_wp2_with fail
              go_roundg m0
              case measure => omega
              case rel => exact ⟨_, _, _, _, rfl, rfl, H, HBwt_44, kt_0_0__185, kt_0_1__186, Pt_44, Lib.hid Dt_44_t_0.out⟩
          · skip
            replace H := bind_hid H
            obtain ⟨t_38, qt_38, H⟩ := H
            go_wp2_with fail
            go_at_call 69
            refine (Go.Proofs.Ytdbgmcgjklmkkaa.GsL6With.C fuel (t_sizes) (t_33) ((-1)) (0) A0_0 c0_0 At_33_p171 ct_33_p171 _   (Lib.hid (Cells.below M0_0.out HBwb36_36_p176.out)) N0_0 (Lib.hid (own_cells Pt_33_p171_p176.out)) (Lib.hid (own_max Pt_33_p171_p176.out)) qt_38).mono ?_
            rintro e_t_38 wt_38 ⟨rfl, bt_38⟩
            have HBwt_38 := Lib.hid (Below.step HBwb36_36_p176.out bt_38)
            replace kt_0_0__172_p176 := cell_below bt_38 kt_0_0__172_p176
            replace kt_0_1__173_p176 := cell_below bt_38 kt_0_1__173_p176
            replace kless_35_0_p164__174_p176 := cell_below bt_38 kless_35_0_p164__174_p176
            replace kless_35_1_p164__175_p176 := cell_below bt_38 kless_35_1_p164__175_p176
            replace Oout_4l0_p164_p169_p170_p171_p176 := Lib.hid (own_below Oout_4l0_p164_p169_p170_p171_p176.out bt_38)
            replace Pt_33_p171_p176 := Lib.hid (own_below Pt_33_p171_p176.out bt_38)
            replace Pb36_36_p176 := Lib.hid (own_below Pb36_36_p176.out bt_38)
            clear bt_38
            replace H := let_hid H
            obtain ⟨t_40, ht_40, H⟩ := H
            cases t_40 with
            | false =>
              replace H := ite_f H
              replace H := let_hid H
              obtain ⟨t_47, ht_47, H⟩ := H
              obtain rfl := ht_31.symm.trans ht_47
              replace H := app_hid H
              go_wp2_with fail
              go_roundg m0
              case measure => omega
              case rel => exact ⟨_, _, _, _, rfl, rfl, H, HBwt_38, kt_0_0__172_p176, kt_0_1__173_p176, Oout_4l0_p164_p169_p170_p171_p176, Lib.hid Dout_4l0_t_0.out⟩
            | true =>
              replace H := ite_t H
              obtain ⟨w_t_43, hw_t_43⟩ : ∃ x, wt_38.alloc (.cells #[.int .i64 i_6l0] 3) = x := ⟨_, rfl⟩
              have bw_t_43 : Below wt_38.heap.size wt_38 w_t_43 := by rw [← hw_t_43]; exact (Below.refl _ _).alloc (Nat.le_refl _) _
              have HBw_t_43 := Lib.hid (Below.step HBwt_38.out bw_t_43)
              have kt_0_0__189 := cell_below bw_t_43 kt_0_0__172_p176
              have kt_0_1__190 := cell_below bw_t_43 kt_0_1__173_p176
              have kless_35_0_p164__191 := cell_below bw_t_43 kless_35_0_p164__174_p176
              have kless_35_1_p164__192 := cell_below bw_t_43 kless_35_1_p164__175_p176
              replace Oout_4l0_p164_p169_p170_p171_p176 := Lib.hid (own_below Oout_4l0_p164_p169_p170_p171_p176.out bw_t_43)
              replace Pt_33_p171_p176 := Lib.hid (own_below Pt_33_p171_p176.out bw_t_43)
              replace Pb36_36_p176 := Lib.hid (own_below Pb36_36_p176.out bw_t_43)
              clear bw_t_43
              replace H := guard_hid H
              obtain ⟨hlt_44, H⟩ := H
              replace H := let_hid H
              obtain ⟨t_44, ht_44, H⟩ := H
              have hht_44 := Lib.hid ht_44
              clear ht_44
              have hst_44 := HBw_t_43.out.size
              go_wp2_with (at_builtin; refine wpList_append_own_at _ rfl _ _ 22 rfl w.heap.size 3 i0_3 (.int .i64 0) 1 8 Try.underlying22 hi_3 hz0_3 hz1_3 hz2_3 rfl (by decide) _ _ _ rfl Oout_4l0_p164_p169_p170_p171_p176.out ⟨wt_38.heap.size, 0, none⟩ 1 1 [.int .i64 i_6l0] rfl rfl (news_new hw_t_43) (one_cells rfl) (by unfold maxLen; omega) (by omega) hst_44 ?_; intro vt_44 wt_44 ot_44 gt_44 zt_44 yt_44; clear zt_44; obtain ⟨qt_44, ct_44, rfl, pt_44⟩ := own_push hht_44.out (Go.Proofs.Ytdbgmcgjklmkkaa.HelpInt.iv_snoc _ _) rfl ot_44; have Pt_44 := Lib.hid pt_44; have Yt_44 := Lib.hid yt_44; have Gt_44 := Lib.hid gt_44; clear ot_44 gt_44 pt_44 yt_44; refine stop_in ?_)
              refine stop_out ?_
              have HBwt_44 := Lib.hid (HBw_t_43.out.grown Gt_44.out hst_44 (fun q hq => (Oout_4l0_p164_p169_p170_p171_p176.out.lt q hq).1))
              clear hst_44
              have Dt_44_t_0 : Hid (Apart (some ⟨qt_44, 0, none⟩) _) := Lib.hid (apart_app Dout_4l0_t_0.out (fun a_ ha_ => by cases ha_; exact cell_lt kt_0_0__189) Yt_44.out)
              have Dt_44_less_35 : Hid (Apart (some ⟨qt_44, 0, none⟩) _) := Lib.hid (apart_app (Apart.symm Dless_35_out_4l0_p164.out) (fun a_ ha_ => by cases ha_; exact cell_lt kless_35_0_p164__191) Yt_44.out)
              have Dt_44_t_33 : Hid (Apart (some ⟨qt_44, 0, none⟩) _) := Lib.hid (apart_app (Apart.symm Dt_33_out_4l0_p171.out) (fun a_ ha_ => (own_lt Pt_33_p171_p176.out a_ ha_).2) Yt_44.out)
              replace kt_0_0__189 := cell_other kt_0_0__189 Gt_44.out Dout_4l0_t_0.out
              replace kt_0_1__190 := cell_other kt_0_1__190 Gt_44.out Dout_4l0_t_0.out
              replace kless_35_0_p164__191 := cell_other kless_35_0_p164__191 Gt_44.out (Apart.symm Dless_35_out_4l0_p164.out)
              replace kless_35_1_p164__192 := cell_other kless_35_1_p164__192 Gt_44.out (Apart.symm Dless_35_out_4l0_p164.out)
              replace Pb36_36_p176 := Lib.hid (own_other Pb36_36_p176.out Gt_44.out (Apart.symm Dless_35_out_4l0_p164.out))
              replace Pt_33_p171_p176 := Lib.hid (own_other Pt_33_p171_p176.out Gt_44.out (Apart.symm Dt_33_out_4l0_p171.out))
              clear kt_0_0__172_p176 kt_0_1__173_p176 kless_35_0_p164__174_p176 kless_35_1_p164__175_p176
              clear Oout_4l0_p164_p169_p170_p171_p176 Yt_44 Gt_44
              replace H := let_hid H
              obtain ⟨t_47, ht_47, H⟩ := H
              obtain rfl := ht_31.symm.trans ht_47
              replace H := app_hid H
              go_wp2_with fail
              go_roundg m0
              case measure => omega
              case rel => exact ⟨_, _, _, _, rfl, rfl, H, HBwt_44, kt_0_0__189, kt_0_1__190, Pt_44, Lib.hid Dt_44_t_0.out⟩
end Go.Proofs.Ytdbgmcgjklmkkaa.GsNeedlessBans

/- More words for the contracts of plain functions: a test against nil, a row that is handed over, a row whose end is cleared. No condition. -/
namespace Go.Proofs.Ytdbgmcgjklmkkaa.GoK
set_option linter.unusedVariables false
open Go.RowKit
open Go.Proofs.Ytdbgmcgjklmkkaa.Rowed Go.Proofs.Ytdbgmcgjklmkkaa.Turn Go.Proofs.Ytdbgmcgjklmkkaa.GoM

/-- a test of a row against nil: only an empty row can be nil, and then both ways have one answer -/
def nilK {α ρ : Type} (l : List α) (f : Bool → Option ρ) : Option ρ := f false
theorem nilK_hid {α ρ : Type} {l : List α} {f : Bool → Option ρ} {r : ρ} (H : Hid (nilK l f = some r)) (b : Bool) (hb : b = true → l = []) (he : l = [] → f true = f false) : Hid (f b = some r) := by
  have h : f false = some r := H
  cases b with
  | false => exact h
  | true => exact (he (hb rfl)).trans h
theorem nil_cells {w : World} {K n : Nat} {A : Option Addr} {α : Type} {l : List α} {cs : List Value} (h : Cells w K A n cs) (hl : cs = [] → l = []) : A.isNone = true → l = [] := by
  intro hA
  refine hl ?_
  cases hc : cs with
  | nil => rfl
  | cons y ys => obtain ⟨a, e, _⟩ := h.2 (by rw [hc]; simp); rw [e] at hA; simp at hA
/-- where a row lies that a function hands on: where another one lay, or behind all that was there -/
def From (w : World) (A A' : Option Addr) : Prop := ∀ a', A' = some a' → (∃ a, A = some a ∧ a.block = a'.block) ∨ w.heap.size ≤ a'.block
theorem from_self {w : World} {A : Option Addr} : From w A A := fun a h => .inl ⟨a, h, rfl⟩
theorem from_new {w : World} {A : Option Addr} {g : Nat} (h : w.heap.size ≤ g) : From w A (some ⟨g, 0, none⟩) := by
  intro a' e
  injection e with e
  subst e
  exact .inr h
theorem apart_from {w : World} {A A' B : Option Addr} (hD : Apart A B) (hB : ∀ a, B = some a → a.block < w.heap.size) (h : From w A A') : Apart A' B := by
  intro a a' ha ha' e
  have hl := hB a' ha'
  rcases h a ha with ⟨a2, h2, e2⟩ | h2
  · exact hD a2 a' h2 ha' (e2.trans e)
  · omega
theorem own_emptyB {b : Nat} {wc : World} {T K : Nat} (h : b ≤ wc.heap.size) : (wc.alloc (.cells #[] T)).ownsRow b T K (.slice (some ⟨wc.heap.size, 0, none⟩) 0 0) 0 [] :=
  ⟨by simp, .inr ⟨wc.heap.size, 0, #[], rfl, h, heap_alloc_new wc _, Nat.le_refl _, by unfold maxLen; omega, by simp, by simp⟩⟩
theorem own_setCells {b T K n c g : Nat} : ∀ (vs : List Value) (o : Nat) {w : World} {xs : List Value}, w.ownsRow b T K (.slice (some ⟨g, 0, none⟩) n c) n xs → o + vs.length ≤ xs.length →
    (w.setCells g o vs).ownsRow b T K (.slice (some ⟨g, 0, none⟩) n c) n (xs.take o ++ vs ++ xs.drop (o + vs.length)) ∧ w.grownBy (w.setCells g o vs) (some g) := by
  intro vs
  induction vs with
  | nil => intro o w xs h _; exact ⟨by simpa [World.setCells] using h, Aid.grown_refl _ _⟩
  | cons v vs ih =>
    intro o w xs h hl
    simp only [List.length_cons] at hl
    have h1 := h.stored o v
    have h2 := ih (o + 1) h1.1 (by rw [List.length_set]; omega)
    refine ⟨?_, Aid.grown_tr h1.2 h2.2⟩
    have e : (xs.set o v).take (o + 1) ++ vs ++ (xs.set o v).drop (o + 1 + vs.length) = xs.take o ++ (v :: vs) ++ xs.drop (o + (v :: vs).length) := by
      have ho : o < xs.length := by omega
      rw [List.drop_set_of_lt (by omega), List.take_add_one, List.getElem?_set_self ho, List.take_set_of_le (Nat.le_refl _)]
      simp [Nat.add_comm, Nat.add_left_comm]
    rw [← e]
    exact h2.1
/-- clear(s[lo:]) of a row of its own -/
theorem own_clear {P : Program} {t e : TypeId} {i : TypeInfo} {k : IntKind} {n c b : Nat} {A : Option Addr} {lo : Int} {w : World} {xs ys : List Value} {z : Value}
    (ht : P.underlying t = some (.slice (P.elem t))) (he : P.elem t = e) (hi : P.info? e = some i) (hs : i.size = 1) (hv : i.zero = some z) (hz : z.cells = #[z]) (h1 : z.oneCell' = true)
    (h : w.ownsRow b e 1 (.slice A n c) n xs) (hl : 0 ≤ lo ∧ lo ≤ (n : Int)) (hd : xs.take lo.toNat ++ List.replicate (n - lo.toNat) z = ys) :
    ∃ A' m c' w', (∀ W, (Instr.slice t (.slice A n c) (some (.int k lo)) none none).run P W = .ok (.slice A' m c') W) ∧ (∀ ty, (Builtin.clear_ #[t] ty #[.slice A' m c']).run P w = .ok (.tuple #[]) w') ∧
      w'.ownsRow b e 1 (.slice A n c) n ys ∧ w.grownBy w' (Value.slice A n c).ownBlock := by
  have hR := own_room h
  have hxs : xs.length = n := by have := h.1; omega
  have hsz : ∀ W, (sizeOf (P.elem t)).run P W = .ok 1 W := by intro W; subst he; simp [sizeOf, typeInfo, hi, hs]
  have hrun : ∀ W, (Instr.slice t (.slice A n c) (some (.int k lo)) none none).run P W = .ok (.slice (if c = lo.toNat then A else A.map (·.add (lo.toNat * 1))) (n - lo.toNat) (c - lo.toNat)) W := by
    intro W
    rw [run_slice_l (P := P) W t A n c ht k lo hl.1 hl.2, hsz W]
    rfl
  by_cases hm : n - lo.toNat = 0
  · refine ⟨_, _, _, w, hrun, ?_, ?_, Aid.grown_refl _ _⟩
    · intro ty
      rw [hm]
      generalize (if c = lo.toNat then A else A.map (·.add (lo.toNat * 1))) = A'
      cases A' <;> simp [Builtin.clear_, run_underlying ht]
    · rw [← hd, hm, List.replicate_zero, List.append_nil, List.take_of_length_le (by omega)]
      exact h
  · obtain ⟨g, rfl⟩ := own_some h (by omega)
    have hne : ¬ c = lo.toNat := by have := hR.1; omega
    have hcl := own_cells h
    have hget : ∀ j, j < n → (w.cell? ⟨g, j, none⟩).isSome = true := by
      intro j hj
      obtain ⟨ad, e0, hc⟩ := hcl.2 (by omega)
      obtain rfl := Option.some.inj e0
      have := hc j xs[j] (List.getElem?_eq_getElem (by omega))
      rw [add_flat, Nat.zero_add] at this
      rw [this]; rfl
    have hadd : (if c = lo.toNat then (some ⟨g, 0, none⟩ : Option Addr) else (some ⟨g, 0, none⟩ : Option Addr).map (·.add (lo.toNat * 1))) = some ⟨g, lo.toNat, none⟩ := by
      rw [if_neg hne, Option.map_some, add_flat, Nat.zero_add, Nat.mul_one]
    rw [hadd] at hrun
    have h2 := own_setCells (List.replicate (n - lo.toNat) z) lo.toNat h (by rw [List.length_replicate]; omega)
    refine ⟨_, _, _, _, hrun, fun ty => ?_, ?_, h2.2⟩
    · refine Lib.run_clear_slice w t e ty z (he ▸ ht) (fun w => by simp [zeroValue, typeInfo, hi, hv]) hz h1 g lo.toNat (n - lo.toNat) (c - lo.toNat) (by omega) (fun j hj => hget _ (by omega)) (fun j hj => h.frozenAt _)
    · have e2 : xs.take lo.toNat ++ List.replicate (n - lo.toNat) z ++ xs.drop (lo.toNat + (List.replicate (n - lo.toNat) z).length) = ys := by
        rw [List.length_replicate, List.drop_of_length_le (by omega), List.append_nil, hd]
      rw [← e2]
      exact h2.1
theorem apart_xio {n bb oo : Nat} {B : Option Addr} (h : 0 < n → Apart (some ⟨bb, oo, none⟩) B) (h0 : 0 < n) : Apart B (some ⟨bb, 0, none⟩) := by
  intro a a' ha ha' e
  injection ha' with ha'
  subst ha'
  exact h h0 ⟨bb, oo, none⟩ a rfl ha e.symm
/-- a row that came in, where another one was written -/
theorem cells_wr {w w' : World} {K n q c' : Nat} {A B : Option Addr} {xs : List Value} (h : Cells w K A n xs) (hg : w.grownBy w' (Value.slice B q c').ownBlock) (hX : 0 < n → Apart A B) : Cells w' K A n xs := by
  refine ⟨h.1, fun h0 => ?_⟩
  obtain ⟨a, e, hc⟩ := h.2 h0
  have hn : 0 < n := by
    rcases Nat.eq_zero_or_pos n with h1 | h1
    · have := h.1; rw [h1, Nat.zero_mul] at this; omega
    · exact h1
  refine ⟨a, e, fun j u hu => ?_⟩
  have hj := hc j u hu
  have hb : (a.add j).block = a.block := by unfold Addr.add; split <;> rfl
  rw [World.cell?_of_block (hg.block (a.add j).block (cell_lt hj) ?_)]
  · exact hj
  · cases hB : B with
    | none => simp [Value.ownBlock]
    | some y =>
      simp only [Value.ownBlock, ne_eq, Option.some.injEq]
      intro e2
      exact hX hn a y e hB (by rw [← hb]; exact e2)
/-- what came in lies apart from a row of one's own -/
theorem far_base {w w1 : World} {K n T K' m c n' : Nat} {A B : Option Addr} {cs xs : List Value} (hK : 0 < K) (h : Cells w K A n cs) (hO : w1.ownsRow w.heap.size T K' (.slice B m c) n' xs) : 0 < n → Apart A B := by
  intro hn a a' ha ha' e
  have h0 : 0 < cs.length := by rw [h.1]; exact Nat.mul_pos hn hK
  obtain ⟨a2, e2, hc⟩ := h.2 h0
  obtain rfl : a = a2 := by rw [ha] at e2; exact Option.some.inj e2
  have hl := cell_lt (hc 0 _ (List.getElem?_eq_getElem h0))
  have hb : (a.add 0).block = a.block := by unfold Addr.add; simp
  have := (own_lt hO a' ha').1
  rw [hb] at hl
  omega
end Go.Proofs.Ytdbgmcgjklmkkaa.GoK

/- Rows of rows: a row of slices, each of which is a row of its own, all apart from each other. No condition. -/
namespace Go.Proofs.Ytdbgmcgjklmkkaa.GoN
set_option linter.unusedVariables false
open Go.RowKit
open Go.Proofs.Ytdbgmcgjklmkkaa.Rowed Go.Proofs.Ytdbgmcgjklmkkaa.Turn Go.Proofs.Ytdbgmcgjklmkkaa.GoM Go.Proofs.Ytdbgmcgjklmkkaa.GoK

/-- the cells of a row of slices whose headers are hs -/
def heads {F : Type} (l : List (List F)) (hs : List (Option Addr × Nat)) : List Value := (l.zip hs).map fun p => Value.slice p.2.1 p.1.length p.2.2
/-- l, laid as rows of its own; B: where they lie -/
def OwnNest {F : Type} (w : World) (b T rT rK : Nat) (f : List F → List Value) (A : Option Addr) (c : Nat) (l : List (List F)) (B : List (Option Addr)) : Prop :=
  ∃ hs : List (Option Addr × Nat), hs.length = l.length ∧ w.ownsRow b T 1 (.slice A l.length c) l.length (heads l hs) ∧
    (∀ (i : Nat) x h, l[i]? = some x → hs[i]? = some h → w.ownsRow b rT rK (.slice h.1 x.length h.2) x.length (f x)) ∧ B = A :: hs.map (·.1) ∧ B.Pairwise Apart
/-- l reads as rows -/
def ReadNest {F : Type} (w : World) (rK : Nat) (f : List F → List Value) (A : Option Addr) (l : List (List F)) : Prop :=
  ∃ hs : List (Option Addr × Nat), hs.length = l.length ∧ Cells w 1 A l.length (heads l hs) ∧
    ∀ (i : Nat) x h, l[i]? = some x → hs[i]? = some h → Cells w rK h.1 x.length (f x) ∧ Room h.1 x.length h.2 ∧ x.length ≤ 9223372036854775807

section
variable {F : Type} {w w' : World} {b T rT rK c : Nat} {f : List F → List Value} {A : Option Addr} {l : List (List F)} {B : List (Option Addr)}

theorem nest_below (h : OwnNest w b T rT rK f A c l B) (hb : Below w.heap.size w w') : OwnNest w' b T rT rK f A c l B := by
  obtain ⟨hs, h1, h2, h3, h4, h5⟩ := h
  exact ⟨hs, h1, own_below h2 hb, fun i x h hx hh => own_below (h3 i x h hx hh) hb, h4, h5⟩
/-- another row is written -/
theorem nest_other {n' c' : Nat} {A' : Option Addr} (h : OwnNest w b T rT rK f A c l B) (hg : w.grownBy w' (Value.slice A' n' c').ownBlock) (hD : ∀ x ∈ B, Apart A' x) : OwnNest w' b T rT rK f A c l B := by
  obtain ⟨hs, h1, h2, h3, h4, h5⟩ := h
  subst h4
  refine ⟨hs, h1, own_other h2 hg (hD _ (by simp)), fun i x h hx hh => own_other (h3 i x h hx hh) hg (hD _ ?_), rfl, h5⟩
  exact List.mem_cons_of_mem _ (List.mem_map.2 ⟨h, List.mem_of_getElem? hh, rfl⟩)
theorem nest_lt (h : OwnNest w b T rT rK f A c l B) : ∀ x ∈ B, ∀ a, x = some a → b ≤ a.block ∧ a.block < w.heap.size := by
  obtain ⟨hs, h1, h2, h3, rfl, h5⟩ := h
  intro x hx a ha
  rcases List.mem_cons.1 hx with rfl | hx
  · exact own_lt h2 a ha
  · obtain ⟨h, hh, rfl⟩ := List.mem_map.1 hx
    obtain ⟨i, hi⟩ := List.getElem?_of_mem hh
    have hil := (List.getElem?_eq_some_iff.1 hi).1
    exact own_lt (h3 i l[i] h (List.getElem?_eq_getElem (by omega)) hi) a ha
/-- what is laid now is apart from all of it -/
theorem nest_fresh (h : OwnNest w b T rT rK f A c l B) : ∀ x ∈ B, Apart (some ⟨w.heap.size, 0, none⟩) x := by
  intro x hx a a' ha ha' e
  have := (nest_lt h x hx a' ha').2
  injection ha with ha
  subst ha
  simp at e
  omega
theorem nest_call {w1 : World} {T' K' n m c' : Nat} {A' : Option Addr} {xs : List Value} (h1 : w1.ownsRow w.heap.size T' K' (.slice A' m c') n xs) (h : OwnNest w b T rT rK f A c l B) : ∀ x ∈ B, Apart A' x := by
  intro x hx a a' ha ha' e
  have := (nest_lt h x hx a' ha').2
  have := (own_lt h1 a ha).1
  omega
theorem nest_empty {wc : World} (h : b ≤ wc.heap.size) : OwnNest (wc.alloc (.cells #[] T)) b T rT rK f (some ⟨wc.heap.size, 0, none⟩) 0 ([] : List (List F)) [some ⟨wc.heap.size, 0, none⟩] :=
  ⟨[], rfl, ⟨by simp [heads], .inr ⟨wc.heap.size, 0, #[], rfl, h, heap_alloc_new wc _, Nat.le_refl _, by unfold maxLen; omega, by simp, by simp [heads]⟩⟩, fun i x h hx _ => by simp at hx, rfl, by simp⟩
theorem heads_at {hs : List (Option Addr × Nat)} {i : Nat} {x : List F} {h : Option Addr × Nat} (hx : l[i]? = some x) (hh : hs[i]? = some h) : (heads l hs)[i]? = some (.slice h.1 x.length h.2) := by
  unfold heads
  rw [List.getElem?_map, (List.getElem?_zip_eq_some (z := (x, h))).2 ⟨hx, hh⟩]; rfl
theorem heads_len {hs : List (Option Addr × Nat)} (h : hs.length = l.length) : (heads l hs).length = l.length := by unfold heads; rw [List.length_map, List.length_zip]; omega
theorem nest_read (h : OwnNest w b T rT rK f A c l B) : ReadNest w rK f A l := by
  obtain ⟨hs, h1, h2, h3, h4, h5⟩ := h
  exact ⟨hs, h1, own_cells h2, fun i x h hx hh => ⟨own_cells (h3 i x h hx hh), own_room (h3 i x h hx hh), own_max (h3 i x h hx hh)⟩⟩
theorem read_below (h : ReadNest w rK f A l) (hb : Below w.heap.size w w') : ReadNest w' rK f A l := by
  obtain ⟨hs, h1, h2, h3⟩ := h
  exact ⟨hs, h1, Cells.below h2 hb, fun i x h hx hh => ⟨Cells.below (h3 i x h hx hh).1 hb, (h3 i x h hx hh).2⟩⟩
/-- the slice at k -/
theorem nest_at {k : Nat} (h : ReadNest w rK f A l) (hk : k < l.length) : ∃ (bb o : Nat) (x : List F) (A1 : Option Addr) (c1 : Nat), A = some ⟨bb, o, none⟩ ∧ l[k]? = some x ∧ w.cell? ⟨bb, o + k, none⟩ = some (.slice A1 x.length c1) ∧
    Cells w rK A1 x.length (f x) ∧ Room A1 x.length c1 ∧ x.length ≤ 9223372036854775807 := by
  obtain ⟨hs, h1, h2, h3⟩ := h
  have hx := List.getElem?_eq_getElem hk
  have hh := List.getElem?_eq_getElem (show k < hs.length by omega)
  obtain ⟨⟨bb, o, sp⟩, e, hc⟩ := h2.2 (by rw [heads_len h1]; omega)
  have h0 := hc 0 _ (heads_at (List.getElem?_eq_getElem (show 0 < l.length by omega)) (List.getElem?_eq_getElem (show 0 < hs.length by omega)))
  obtain rfl : sp = none := cell_spot (b := bb) (o := o) h0
  have h4 := hc k _ (heads_at hx hh)
  rw [add_flat] at h4
  obtain ⟨r1, r2, r3⟩ := h3 k _ _ hx hh
  exact ⟨bb, o, l[k], hs[k].1, hs[k].2, e, hx, h4, r1, r2, r3⟩
/-- one row more, behind an append of its header -/
theorem nest_push {n' c' cx : Nat} {v' : Value} {Ax : Option Addr} {x : List F} {hs : List (Option Addr × Nat)} (h1 : hs.length = l.length)
    (h3 : ∀ (i : Nat) y h, l[i]? = some y → hs[i]? = some h → w'.ownsRow b rT rK (.slice h.1 y.length h.2) y.length (f y)) (hx : w'.ownsRow b rT rK (.slice Ax x.length cx) x.length (f x))
    (ho : w'.ownsRow b T 1 v' (l.length + 1) (heads l hs ++ [.slice Ax x.length cx])) (hp : (hs.map (·.1) ++ [Ax]).Pairwise Apart) (hv : ∀ a, v'.ownBlock = some a → ∀ y ∈ hs.map (·.1) ++ [Ax], ∀ a', y = some a' → a'.block ≠ a) :
    ∃ g cap, v' = .slice (some ⟨g, 0, none⟩) (l ++ [x]).length cap ∧ OwnNest w' b T rT rK f (some ⟨g, 0, none⟩) cap (l ++ [x]) (some ⟨g, 0, none⟩ :: (hs.map (·.1) ++ [Ax])) := by
  obtain ⟨g, cap, rfl⟩ : ∃ g cap, v' = .slice (some ⟨g, 0, none⟩) (l.length + 1) cap := by
    rcases ho.2 with ⟨_, h⟩ | ⟨g3, cap3, _, h, _⟩
    · omega
    · exact ⟨g3, cap3, h⟩
  have el : (l ++ [x]).length = l.length + 1 := by simp
  refine ⟨g, cap, by rw [el], hs ++ [(Ax, cx)], by simp [h1], ?_, ?_, by simp, ?_⟩
  · rw [el]
    have e : heads (l ++ [x]) (hs ++ [(Ax, cx)]) = heads l hs ++ [.slice Ax x.length cx] := by unfold heads; rw [List.zip_append h1.symm]; simp
    rw [e]; exact ho
  · intro i y h hy hh
    by_cases hi : i < l.length
    · rw [List.getElem?_append_left hi] at hy
      rw [List.getElem?_append_left (by omega)] at hh
      exact h3 i y h hy hh
    · have hi2 := (List.getElem?_eq_some_iff.1 hy).1
      rw [el] at hi2
      obtain rfl : i = l.length := by omega
      rw [List.getElem?_append_right (Nat.le_refl _)] at hy
      rw [List.getElem?_append_right (by omega)] at hh
      simp [h1] at hy hh
      subst hy
      subst hh
      exact hx
  · rw [List.pairwise_cons]
    refine ⟨fun y hy a a' ha ha' e => ?_, hp⟩
    injection ha with ha
    subst ha
    exact hv g rfl y hy a' ha' e.symm
theorem nest_head (h : OwnNest w b T rT rK f A c l B) : A ∈ B := by
  obtain ⟨hs, h1, h2, h3, rfl, h5⟩ := h
  simp
theorem nest_lower {b' : Nat} (h : OwnNest w b T rT rK f A c l B) (hb : b' ≤ b) : OwnNest w b' T rT rK f A c l B := by
  obtain ⟨hs, h1, h2, h3, h4, h5⟩ := h
  exact ⟨hs, h1, own_lower h2 hb, fun i x h hx hh => own_lower (h3 i x h hx hh) hb, h4, h5⟩
/-- what a call has laid lies apart from a row that was there -/
theorem nest_callrow {w1 : World} {b' T' K' n m c' : Nat} {A' : Option Addr} {xs : List Value} (h1 : OwnNest w1 w.heap.size T rT rK f A c l B) (h : w.ownsRow b' T' K' (.slice A' m c') n xs) : ∀ x ∈ B, Apart A' x := by
  intro x hx a a' ha ha' e
  have := (nest_lt h1 x hx a' ha').1
  have := (own_lt h a ha).2
  omega
theorem nest_callbox {w1 : World} {g j : Nat} {v : Value} (h1 : OwnNest w1 w.heap.size T rT rK f A c l B) (h : w.cell? ⟨g, j, none⟩ = some v) : ∀ x ∈ B, Apart (some ⟨g, 0, none⟩) x := by
  intro x hx a a' ha ha' e
  have := (nest_lt h1 x hx a' ha').1
  have hl : g < w.heap.size := cell_lt h
  injection ha with ha
  subst ha
  simp at e
  omega
theorem nest_callnest {F' : Type} {w1 : World} {b' T' rT' rK' c' : Nat} {f' : List F' → List Value} {A' : Option Addr} {l' : List (List F')} {B' : List (Option Addr)} (h1 : OwnNest w1 w.heap.size T rT rK f A c l B) (h : OwnNest w b' T' rT' rK' f' A' c' l' B') :
    ∀ x ∈ B, ∀ y ∈ B', Apart x y := by
  intro x hx y hy a a' ha ha' e
  have := (nest_lt h1 x hx a ha).1
  have := (nest_lt h y hy a' ha').2
  omega
theorem nest_flip {B B' : List (Option Addr)} (h : ∀ x ∈ B, ∀ y ∈ B', Apart x y) : ∀ y ∈ B', ∀ x ∈ B, Apart y x := fun y hy x hx => (h x hx y hy).symm
/-- the row at k -/
theorem nest_own {k : Nat} (h : OwnNest w b T rT rK f A c l B) (hk : k < l.length) : ∃ (g : Nat) (x : List F) (A1 : Option Addr) (c1 : Nat), A = some ⟨g, 0, none⟩ ∧ l[k]? = some x ∧ w.cell? ⟨g, k, none⟩ = some (.slice A1 x.length c1) ∧
    w.ownsRow b rT rK (.slice A1 x.length c1) x.length (f x) ∧ A1 ∈ B ∧ Apart A A1 := by
  obtain ⟨hs, h1, h2, h3, rfl, h5⟩ := h
  have hx := List.getElem?_eq_getElem hk
  have hh := List.getElem?_eq_getElem (show k < hs.length by omega)
  obtain ⟨g, rfl⟩ := own_some h2 (by omega)
  obtain ⟨ad, e, hc⟩ := (own_cells h2).2 (by rw [heads_len h1]; omega)
  obtain rfl := Option.some.inj e
  have h4 := hc k _ (heads_at hx hh)
  rw [add_flat, Nat.zero_add] at h4
  have hm : hs[k].1 ∈ hs.map (·.1) := List.mem_map.2 ⟨hs[k], List.getElem_mem _, rfl⟩
  exact ⟨g, l[k], hs[k].1, hs[k].2, rfl, hx, h4, h3 k _ _ hx hh, List.mem_cons_of_mem _ hm, (List.pairwise_cons.1 h5).1 _ hm⟩
/-- a row in it has been written -/
theorem nest_store {k g n' c' : Nat} {x x' : List F} {A1 : Option Addr} {c1 : Nat} (h : OwnNest w b T rT rK f (some ⟨g, 0, none⟩) c l B) (hk : l[k]? = some x) (hcell : w.cell? ⟨g, k, none⟩ = some (.slice A1 x.length c1))
    (hx : w'.ownsRow b rT rK (.slice A1 n' c1) n' (f x')) (hn : x'.length = n') (hn2 : x.length = n') (hg : w.grownBy w' (Value.slice A1 n' c').ownBlock) : OwnNest w' b T rT rK f (some ⟨g, 0, none⟩) c (l.set k x') B := by
  subst hn
  obtain ⟨hs, h1, h2, h3, rfl, h5⟩ := h
  have hkl := (List.getElem?_eq_some_iff.1 hk).1
  have hh := List.getElem?_eq_getElem (show k < hs.length by omega)
  obtain ⟨ad, e, hc⟩ := (own_cells h2).2 (by rw [heads_len h1]; omega)
  obtain rfl := Option.some.inj e
  have h4 := hc k _ (heads_at hk hh)
  rw [add_flat, Nat.zero_add, hcell] at h4
  have h4' := Option.some.inj h4
  simp only [Value.slice.injEq] at h4'
  obtain ⟨e1, _, e2⟩ := h4'
  subst e1
  have hap := List.pairwise_cons.1 h5
  have hmk : hs[k].1 ∈ hs.map (·.1) := List.mem_map.2 ⟨hs[k], List.getElem_mem _, rfl⟩
  refine ⟨hs, by rw [List.length_set]; exact h1, ?_, ?_, rfl, h5⟩
  · have e3 : heads (l.set k x') hs = heads l hs := by
      apply List.ext_getElem?
      intro i
      unfold heads
      rw [List.getElem?_map, List.getElem?_map]
      by_cases hi : i < l.length
      · have hi2 : i < hs.length := by omega
        by_cases hik : k = i
        · subst hik
          rw [(List.getElem?_zip_eq_some (z := (x', hs[k]))).2 ⟨by rw [List.getElem?_set_self hkl], hh⟩, (List.getElem?_zip_eq_some (z := (x, hs[k]))).2 ⟨hk, hh⟩]
          simp [hn2]
        · rw [(List.getElem?_zip_eq_some (z := (l[i], hs[i]))).2 ⟨by rw [List.getElem?_set_ne hik]; exact List.getElem?_eq_getElem hi, List.getElem?_eq_getElem hi2⟩,
            (List.getElem?_zip_eq_some (z := (l[i], hs[i]))).2 ⟨List.getElem?_eq_getElem hi, List.getElem?_eq_getElem hi2⟩]
      · rw [List.getElem?_eq_none (by rw [List.length_zip, List.length_set]; omega), List.getElem?_eq_none (by rw [List.length_zip]; omega)]
    rw [e3, List.length_set]
    refine own_other h2 hg ?_
    exact (hap.1 _ hmk).symm
  · intro i y h hy hhi
    by_cases hik : k = i
    · subst hik
      rw [List.getElem?_set_self hkl] at hy
      obtain rfl := Option.some.inj hy
      obtain rfl := Option.some.inj (hh.symm.trans hhi)
      rw [← e2]
      exact hx
    · rw [List.getElem?_set_ne hik] at hy
      refine own_other (h3 i y h hy hhi) hg ?_
      have hi2 := (List.getElem?_eq_some_iff.1 hhi).1
      have hp := List.pairwise_iff_getElem.1 hap.2
      have ei : h = hs[i] := by rw [List.getElem?_eq_getElem hi2] at hhi; exact (Option.some.inj hhi).symm
      rw [ei]
      rcases Nat.lt_or_gt_of_ne hik with h6 | h6
      · have := hp k i (by rw [List.length_map]; omega) (by rw [List.length_map]; omega) h6
        simpa using this
      · have := hp i k (by rw [List.length_map]; omega) (by rw [List.length_map]; omega) h6
        simpa using this.symm
/-- what lies in B' : what lay in B, the row at Ax, and the headers, where they were or behind all -/
def Pushed (w : World) (A Ax : Option Addr) (B B' : List (Option Addr)) : Prop := A ∈ B ∧ Ax ∈ B' ∧ ∀ y ∈ B', y ∈ B ∨ y = Ax ∨ From w A y
theorem apart_push {R Ax : Option Addr} {B' : List (Option Addr)} (hD : ∀ y ∈ B, Apart R y) (hx : Apart R Ax) (hR : ∀ a, R = some a → a.block < w.heap.size) (h : Pushed w A Ax B B') : ∀ y ∈ B', Apart R y := by
  intro y hy
  rcases h.2.2 y hy with h1 | rfl | h1
  · exact hD y h1
  · exact hx
  · exact (apart_from (hD A h.1).symm hR h1).symm
theorem apart_pushN {Ax : Option Addr} {B' C : List (Option Addr)} (hD : ∀ r ∈ C, ∀ y ∈ B, Apart r y) (hx : ∀ r ∈ C, Apart Ax r) (hR : ∀ r ∈ C, ∀ a, r = some a → a.block < w.heap.size) (h : Pushed w A Ax B B') : ∀ r ∈ C, ∀ y ∈ B', Apart r y :=
  fun r hr => apart_push (hD r hr) (hx r hr).symm (hR r hr) h
/-- append(rows, row): the row is in the nest from here on, and reads as before -/
theorem nest_app {n' c' : Nat} {v' : Value} {Ax : Option Addr} {cx : Nat} {x : List F} {hs : List (Option Addr × Nat)} {l' : List (List F)} (hl' : l ++ [x] = l') (h1 : hs.length = l.length) (h4 : B = A :: hs.map (·.1))
    (h3 : ∀ (i : Nat) y h, l[i]? = some y → hs[i]? = some h → w.ownsRow b rT rK (.slice h.1 y.length h.2) y.length (f y)) (h5 : B.Pairwise Apart) (hx : w.ownsRow b rT rK (.slice Ax x.length cx) x.length (f x))
    (hD : ∀ y ∈ B, Apart Ax y) (hg : w.grownBy w' (Value.slice A n' c').ownBlock) (ho : w'.ownsRow b T 1 v' (l.length + 1) (heads l hs ++ [.slice Ax x.length cx]))
    (hy : v'.ownBlock = (Value.slice A n' c').ownBlock ∨ v'.ownBlock = some w.heap.size) :
    ∃ g cap B', v' = .slice (some ⟨g, 0, none⟩) l'.length cap ∧ OwnNest w' b T rT rK f (some ⟨g, 0, none⟩) cap l' B' ∧ Pushed w A Ax B B' ∧ w'.ownsRow b rT rK (.slice Ax x.length cx) x.length (f x) := by
  subst hl'
  subst h4
  have hp := List.pairwise_cons.1 h5
  have hx' := own_other hx hg (hD A (by simp)).symm
  have hlt : ∀ y ∈ hs.map (·.1) ++ [Ax], ∀ a, y = some a → a.block < w.heap.size := by
    intro y hy a ha
    rcases List.mem_append.1 hy with hy | hy
    · obtain ⟨h, hh, rfl⟩ := List.mem_map.1 hy
      obtain ⟨i, hi⟩ := List.getElem?_of_mem hh
      have hil := (List.getElem?_eq_some_iff.1 hi).1
      exact (own_lt (h3 i l[i] h (List.getElem?_eq_getElem (by omega)) hi) a ha).2
    · simp at hy; subst hy; exact (own_lt hx a ha).2
  obtain ⟨g, cap, e, hN⟩ := nest_push (c' := c') (n' := n') h1 (fun i y h hy hh => own_other (h3 i y h hy hh) hg (hp.1 _ (List.mem_map.2 ⟨h, List.mem_of_getElem? hh, rfl⟩))) hx' ho
    (List.pairwise_append.2 ⟨hp.2, by simp, fun a ha b hb => by simp at hb; subst hb; exact (hD a (List.mem_cons_of_mem _ ha)).symm⟩)
    (by
      intro a ha y hy a' ha' e
      rcases hy with hy
      rcases ‹v'.ownBlock = _ ∨ _› with h6 | h6
      · rw [ha] at h6
        cases hA : A with
        | none => rw [hA] at h6; simp [Value.ownBlock] at h6
        | some z =>
          rw [hA] at h6
          simp only [Value.ownBlock, Option.some.injEq] at h6
          rcases List.mem_append.1 hy with hy | hy
          · exact hp.1 y hy z a' hA ha' (by omega)
          · simp at hy; subst hy; exact hD A (by simp) a' z ha' hA (by omega)
      · rw [ha] at h6
        have := hlt y hy a' ha'
        simp only [Option.some.injEq] at h6; omega)
  refine ⟨g, cap, _, e, hN, ⟨by simp, by simp, ?_⟩, hx'⟩
  intro y hy
  rcases List.mem_cons.1 hy with rfl | hy
  · right; right
    rw [e] at ‹v'.ownBlock = _ ∨ _›
    intro a' ha'
    injection ha' with ha'
    subst ha'
    rcases ‹_ ∨ _› with h6 | h6
    · left
      cases hA : A with
      | none => rw [hA] at h6; simp [Value.ownBlock] at h6
      | some z => rw [hA] at h6; simp only [Value.ownBlock, Option.some.injEq] at h6; exact ⟨z, rfl, h6.symm⟩
    · right; simp only [Value.ownBlock, Option.some.injEq] at h6; exact Nat.le_of_eq h6.symm
  · rcases List.mem_append.1 hy with hy | hy
    · exact .inl (List.mem_cons_of_mem _ hy)
    · simp at hy; exact .inr (.inl hy)
theorem nest_one {X R : Option Addr} (h : Apart X R) : ∀ y ∈ [X], Apart R y := by
  intro y hy
  simp at hy
  subst hy
  exact h.symm
theorem nest_max (h : OwnNest w b T rT rK f A c l B) : l.length ≤ 9223372036854775807 := by
  obtain ⟨hs, h1, h2, h3, h4, h5⟩ := h
  exact own_max h2
theorem nest_room (h : OwnNest w b T rT rK f A c l B) : Room A l.length c := by
  obtain ⟨hs, h1, h2, h3, h4, h5⟩ := h
  exact own_room h2
/-- w' is w but for what lies in B, and for new blocks -/
structure GrownN (w w' : World) (B : List (Option Addr)) : Prop where
  os : w'.os = w.os
  tape : w'.tape = w.tape
  output : w'.output = w.output
  size : w.heap.size ≤ w'.heap.size
  block : ∀ k, k < w.heap.size → (∀ y ∈ B, ∀ a, y = some a → a.block ≠ k) → w'.heap[k]? = w.heap[k]?
theorem grownN_refl (w : World) (B : List (Option Addr)) : GrownN w w B := ⟨rfl, rfl, rfl, Nat.le_refl _, fun _ _ _ => rfl⟩
theorem grownN_below {wr w2 : World} {B : List (Option Addr)} (h : GrownN w wr B) (hb : Below wr.heap.size wr w2) : GrownN w w2 B :=
  ⟨hb.os.trans h.os, hb.tape.trans h.tape, hb.output.trans h.output, Nat.le_trans h.size hb.size, fun k hk h1 => (hb.block k (Nat.lt_of_lt_of_le hk h.size)).trans (h.block k hk h1)⟩
theorem grownN_row {wr w2 : World} {B : List (Option Addr)} {n c' : Nat} {A1 : Option Addr} (h : GrownN w wr B) (hg : wr.grownBy w2 (Value.slice A1 n c').ownBlock) (hm : A1 ∈ B) : GrownN w w2 B :=
  ⟨hg.os.trans h.os, hg.tape.trans h.tape, hg.output.trans h.output, Nat.le_trans h.size hg.size, fun k hk h1 => (hg.block k (Nat.lt_of_lt_of_le hk h.size) (by
    cases hA : A1 with
    | none => simp [Value.ownBlock]
    | some a => simp only [Value.ownBlock, ne_eq, Option.some.injEq]; exact fun e => h1 _ hm a hA e.symm)).trans (h.block k hk h1)⟩
theorem below_nest {wr w2 : World} {B0 : Nat} {B : List (Option Addr)} (h : Below B0 w wr) (hg : GrownN wr w2 B) (hB : B0 ≤ wr.heap.size) (h1 : ∀ y ∈ B, ∀ a, y = some a → B0 ≤ a.block ∧ a.block < wr.heap.size) : Below B0 w w2 :=
  ⟨hg.os.trans h.os, hg.tape.trans h.tape, hg.output.trans h.output, Nat.le_trans h.size hg.size, fun k hk => (hg.block k (Nat.lt_of_lt_of_le hk hB) (fun y hy a e e2 => by have := (h1 y hy a e).1; omega)).trans (h.block k hk)⟩
theorem own_otherN {b' T' K' n m c' : Nat} {R : Option Addr} {ys : List Value} (h : w.ownsRow b' T' K' (.slice R m c') n ys) (hg : GrownN w w' B) (hD : ∀ y ∈ B, Apart R y) : w'.ownsRow b' T' K' (.slice R m c') n ys := by
  refine ⟨h.1, ?_⟩
  rcases h.2 with hn | ⟨g, cap, cur, hv, hb, hgg, rest⟩
  · exact .inl hn
  · have hlt := (h.lt g (by rw [hv]; rfl)).2
    have hR : R = some ⟨g, 0, none⟩ := by simp only [Value.slice.injEq] at hv; exact hv.1
    refine .inr ⟨g, cap, cur, hv, hb, ?_, rest⟩
    rw [hg.block g hlt (fun y hy a e e2 => hD y hy _ a hR e e2.symm)]
    exact hgg
theorem cell_otherN {a : Addr} {v : Value} (h : w.cell? a = some v) (hg : GrownN w w' B) (hD : ∀ y ∈ B, Apart (some ⟨a.block, 0, none⟩) y) : w'.cell? a = some v := by
  rw [World.cell?_of_block (hg.block a.block (cell_lt h) (fun y hy x e e2 => hD y hy _ x rfl e e2.symm))]
  exact h
theorem apart_oldN {wr : World} {b' g : Nat} (h : OwnNest wr b' T rT rK f A c l B) (hg : g < b') : ∀ y ∈ B, Apart (some ⟨g, 0, none⟩) y := by
  intro y hy a a' ha ha' e
  have := (nest_lt h y hy a' ha').1
  injection ha with ha
  subst ha
  simp at e
  omega
theorem nest_otherN {F' : Type} {b' T' rT' rK' c' : Nat} {f' : List F' → List Value} {A' : Option Addr} {l' : List (List F')} {B' : List (Option Addr)} (h : OwnNest w b' T' rT' rK' f' A' c' l' B') (hg : GrownN w w' B) (hD : ∀ x ∈ B', ∀ y ∈ B, Apart x y) : OwnNest w' b' T' rT' rK' f' A' c' l' B' := by
  obtain ⟨hs, h1, h2, h3, rfl, h5⟩ := h
  refine ⟨hs, h1, own_otherN h2 hg (hD _ (by simp)), fun i x h hx hh => own_otherN (h3 i x h hx hh) hg (hD _ ?_), rfl, h5⟩
  exact List.mem_cons_of_mem _ (List.mem_map.2 ⟨h, List.mem_of_getElem? hh, rfl⟩)
end
end Go.Proofs.Ytdbgmcgjklmkkaa.GoN

/- loop.example/g01062/impl.within as a plain function, and the contract of the program's: where the plain one has an answer, the program has it. Conditions: slices read as lists. -/
namespace Go.Proofs.Ytdbgmcgjklmkkaa.GiWithin
set_option linter.unusedVariables false
set_option linter.unusedSimpArgs false
open Go.RowKit
open Go.Proofs.Ytdbgmcgjklmkkaa.Rowed Go.Proofs.Ytdbgmcgjklmkkaa.Turn Go.Proofs.Ytdbgmcgjklmkkaa.Aid Go.Proofs.Ytdbgmcgjklmkkaa.GoP Go.Proofs.Ytdbgmcgjklmkkaa.GoM

def P (n_0 : Int) (low : Int) (high : Int) : Option (Bool) :=
  letK (decide (low ≤ n_0)) fun (t_3 : Bool) =>
  joinK (fun (t_8 : Bool) =>
  some t_8) fun jt_8 => iteK t_3 (letK (decide (n_0 ≤ high)) fun (t_7 : Bool) =>
  appK jt_8 t_7) (appK jt_8 false)

set_option maxRecDepth 100000 in
set_option maxHeartbeats 2000000 in
theorem C (n_0 : Int) (low : Int) (high : Int)   (w : World)   {r : Bool} (H : Hid (P n_0 low high = some r)) :
    Calls Try.prog 83 #[.int .i64 n_0, .int .i64 low, .int .i64 high] w (Gives (.bool r) w) := by
  have HB := Lib.hid (Below.refl w.heap.size w)
  unfold P at H
  go_enter Try.func83, Try.ntmps83
  replace H := let_hid H
  obtain ⟨t_3, ht_3, H⟩ := H
  replace H := join_hid H
  cases t_3 with
  | false =>
    replace H := ite_f H
    replace H := app_hid H
    obtain rfl := ret_hid H
    go_wp2_with fail
    go_ret
    exact ⟨rfl, HB.out⟩
  | true =>
    replace H := ite_t H
    replace H := let_hid H
    obtain ⟨t_7, ht_7, H⟩ := H
    replace H := app_hid H
    obtain rfl := ret_hid H
    go_wp2_with fail
    go_ret
    exact ⟨rfl, HB.out⟩

set_option maxRecDepth 100000 in
set_option maxHeartbeats 2000000 in
theorem C0 (n_0 : Int) (low : Int) (high : Int)   (w : World)   {r : Bool} (H : Hid (P n_0 low high = some r)) :
    Calls Try.prog 83 #[.int .i64 n_0, .int .i64 low, .int .i64 high] w (fun e w'' => e = .returned (.bool r) ∧ w'' = w) := by
  have HB := Lib.hid (Below.refl w.heap.size w)
  unfold P at H
  go_enter Try.func83, Try.ntmps83
  replace H := let_hid H
  obtain ⟨t_3, ht_3, H⟩ := H
  replace H := join_hid H
  cases t_3 with
  | false =>
    replace H := ite_f H
    replace H := app_hid H
    obtain rfl := ret_hid H
    go_wp2_with fail
    go_ret
    exact ⟨rfl, rfl⟩
  | true =>
    replace H := ite_t H
    replace H := let_hid H
    obtain ⟨t_7, ht_7, H⟩ := H
    replace H := app_hid H
    obtain rfl := ret_hid H
    go_wp2_with fail
    go_ret
    exact ⟨rfl, rfl⟩
end Go.Proofs.Ytdbgmcgjklmkkaa.GiWithin

/- loop.example/g01062/impl.hasValue as a plain function, and the contract of the program's: where the plain one has an answer, the program has it. Conditions: slices read as lists. -/
namespace Go.Proofs.Ytdbgmcgjklmkkaa.GiHasValue
set_option linter.unusedVariables false
set_option linter.unusedSimpArgs false
open Go.RowKit
open Go.Proofs.Ytdbgmcgjklmkkaa.Rowed Go.Proofs.Ytdbgmcgjklmkkaa.Turn Go.Proofs.Ytdbgmcgjklmkkaa.Aid Go.Proofs.Ytdbgmcgjklmkkaa.GoP Go.Proofs.Ytdbgmcgjklmkkaa.GoM

def P (sizes : (List Int)) (trait : Int) (value : Int) : Option (Bool) :=
  letK (IntKind.i64.wrap ((sizes.length : Int) - 1)) fun (t_4 : Int) =>
  Option.bind (Go.Proofs.Ytdbgmcgjklmkkaa.GiWithin.P trait 0 t_4) fun (t_5 : Bool) =>
  joinK (fun (t_14 : Bool) =>
  some t_14) fun jt_14 => iteK t_5 (Option.bind (idx sizes trait) fun (yt_10 : Int) =>
  letK (IntKind.i64.wrap (yt_10 - 1)) fun (t_12 : Int) =>
  Option.bind (Go.Proofs.Ytdbgmcgjklmkkaa.GiWithin.P value 0 t_12) fun (t_13 : Bool) =>
  appK jt_14 t_13) (appK jt_14 false)

set_option maxRecDepth 100000 in
set_option maxHeartbeats 2000000 in
theorem C (sizes : (List Int)) (trait : Int) (value : Int) (A0 : Option Addr) (c0 : Nat)  (w : World) (M0 : Hid (Cells w 1 A0 sizes.length (Go.Proofs.Ytdbgmcgjklmkkaa.HelpInt.iv sizes))) (N0 : Hid (sizes.length ≤ 9223372036854775807))  {r : Bool} (H : Hid (P sizes trait value = some r)) :
    Calls Try.prog 163 #[.slice A0 sizes.length c0, .int .i64 trait, .int .i64 value] w (Gives (.bool r) w) := by
  have HB := Lib.hid (Below.refl w.heap.size w)
  unfold P at H
  have N0o := N0.out
  go_enter Try.func163, Try.ntmps163
  replace H := let_hid H
  obtain ⟨t_4, ht_4, H⟩ := H
  try have hv_t_4 : (sizes.length : Int) - 1 = t_4 := by rw [← ht_4]; exact (IntWalk.i64_in _ (by omega)).symm
  try have hv2_t_4 : IntKind.i64.wrap t_4 = t_4 := by rw [← hv_t_4]; exact IntWalk.i64_in _ (by omega)
  replace H := bind_hid H
  obtain ⟨t_5, qt_5, H⟩ := H
  go_wp2_with fail
  go_at_call 83
  refine (Go.Proofs.Ytdbgmcgjklmkkaa.GiWithin.C (trait) (0) (t_4)  _    qt_5).mono ?_
  rintro e_t_5 wt_5 ⟨rfl, bt_5⟩
  have HBwt_5 := Lib.hid (Below.step HB.out bt_5)
  clear bt_5
  replace H := join_hid H
  cases t_5 with
  | false =>
    replace H := ite_f H
    replace H := app_hid H
    obtain rfl := ret_hid H
    go_wp2_with fail
    go_ret
    exact ⟨rfl, HBwt_5.out⟩
  | true =>
    replace H := ite_t H
    replace H := idx_hid H
    obtain ⟨nt_10, yt_10, et_10, lt_10, gt_10, H⟩ := H
    subst et_10
    obtain ⟨ab_t_10, ao_t_10, zt_10, At_10, z_t_10, ct_10_0⟩ := Go.Proofs.Ytdbgmcgjklmkkaa.HelpInt.Ints.at_ M0.out lt_10
    obtain rfl := Option.some.inj (gt_10.out.symm.trans z_t_10)
    subst At_10
    have ltt_10 := cell_lt ct_10_0
    replace ct_10_0 := cell_below HBwt_5.out ct_10_0
    clear z_t_10
    have b0t_10 : (0 : Int) ≤ (nt_10 : Int) := by omega
    have b1t_10 : (nt_10 : Int) < ((sizes.length : Nat) : Int) := by omega
    have b2t_10 : ((nt_10 : Int)).toNat = nt_10 := by omega
    replace H := let_hid H
    obtain ⟨t_12, ht_12, H⟩ := H
    replace H := bind_hid H
    obtain ⟨t_13, qt_13, H⟩ := H
    go_wp2_with fail
    go_at_call 83
    refine (Go.Proofs.Ytdbgmcgjklmkkaa.GiWithin.C (value) (0) (t_12)  _    qt_13).mono ?_
    rintro e_t_13 wt_13 ⟨rfl, bt_13⟩
    have HBwt_13 := Lib.hid (Below.step HBwt_5.out bt_13)
    replace ct_10_0 := cell_below bt_13 ct_10_0
    clear bt_13
    replace H := app_hid H
    obtain rfl := ret_hid H
    go_wp2_with fail
    go_ret
    exact ⟨rfl, HBwt_13.out⟩
end Go.Proofs.Ytdbgmcgjklmkkaa.GiHasValue

/- loop.example/g01062/impl.isBan as a plain function, and the contract of the program's: where the plain one has an answer, the program has it. Conditions: slices read as lists. -/
namespace Go.Proofs.Ytdbgmcgjklmkkaa.GiIsBan
set_option linter.unusedVariables false
set_option linter.unusedSimpArgs false
open Go.RowKit
open Go.Proofs.Ytdbgmcgjklmkkaa.Rowed Go.Proofs.Ytdbgmcgjklmkkaa.Turn Go.Proofs.Ytdbgmcgjklmkkaa.Aid Go.Proofs.Ytdbgmcgjklmkkaa.GoP Go.Proofs.Ytdbgmcgjklmkkaa.GoM

def P (sizes : (List Int)) (b : Go.Proofs.Ytdbgmcgjklmkkaa.PBan.Ban) : Option (Bool) :=
  unBan b fun (b_a : Int) (b_x : Int) (b_b : Int) (b_y : Int) =>
  letK (decide (b_a < b_b)) fun (t_6 : Bool) =>
  joinK (fun (t_14 : Bool) =>
  joinK (fun (t_22 : Bool) =>
  some t_22) fun jt_22 => iteK t_14 (Option.bind (Go.Proofs.Ytdbgmcgjklmkkaa.GiHasValue.P sizes b_b b_y) fun (t_21 : Bool) =>
  appK jt_22 t_21) (appK jt_22 false)) fun jt_14 => iteK t_6 (Option.bind (Go.Proofs.Ytdbgmcgjklmkkaa.GiHasValue.P sizes b_a b_x) fun (t_13 : Bool) =>
  appK jt_14 t_13) (appK jt_14 false)

set_option maxRecDepth 100000 in
set_option maxHeartbeats 2000000 in
theorem C (sizes : (List Int)) (b : Go.Proofs.Ytdbgmcgjklmkkaa.PBan.Ban) (A0 : Option Addr) (c0 : Nat)  (w : World) (M0 : Hid (Cells w 1 A0 sizes.length (Go.Proofs.Ytdbgmcgjklmkkaa.HelpInt.iv sizes))) (N0 : Hid (sizes.length ≤ 9223372036854775807))  {r : Bool} (H : Hid (P sizes b = some r)) :
    Calls Try.prog 128 #[.slice A0 sizes.length c0, b.val] w (Gives (.bool r) w) := by
  have HB := Lib.hid (Below.refl w.heap.size w)
  unfold P at H
  obtain ⟨b_a, b_x, b_b, b_y⟩ := b
  replace H := unBan_hid H
  unfold Go.Proofs.Ytdbgmcgjklmkkaa.PBan.Ban.val
  have N0o := N0.out
  go_enter Try.func128, Try.ntmps128
  obtain ⟨w_b_0, hw_b_0⟩ : ∃ x, w.alloc (.cells #[.int .i64 b_a, .int .i64 b_x, .int .i64 b_b, .int .i64 b_y] 96) = x := ⟨_, rfl⟩
  have bw_b_0 : Below w.heap.size w w_b_0 := by rw [← hw_b_0]; exact (Below.refl _ _).alloc (Nat.le_refl _) _
  have HBw_b_0 := Lib.hid (Below.step HB.out bw_b_0)
  clear bw_b_0
  have kb_0_0 : w_b_0.cell? ⟨w.heap.size, 0, none⟩ = some (.int .i64 b_a) := by rw [← hw_b_0]; exact box_new _ _ _ 0 _ rfl
  have kb_0_1 : w_b_0.cell? ⟨w.heap.size, 1, none⟩ = some (.int .i64 b_x) := by rw [← hw_b_0]; exact box_new _ _ _ 1 _ rfl
  have kb_0_2 : w_b_0.cell? ⟨w.heap.size, 2, none⟩ = some (.int .i64 b_b) := by rw [← hw_b_0]; exact box_new _ _ _ 2 _ rfl
  have kb_0_3 : w_b_0.cell? ⟨w.heap.size, 3, none⟩ = some (.int .i64 b_y) := by rw [← hw_b_0]; exact box_new _ _ _ 3 _ rfl
  replace H := let_hid H
  obtain ⟨t_6, ht_6, H⟩ := H
  replace H := join_hid H
  cases t_6 with
  | false =>
    replace H := ite_f H
    replace H := app_hid H
    replace H := join_hid H
    replace H := ite_f H
    replace H := app_hid H
    obtain rfl := ret_hid H
    go_wp2_with fail
    go_ret
    exact ⟨rfl, HBw_b_0.out⟩
  | true =>
    replace H := ite_t H
    replace H := bind_hid H
    obtain ⟨t_13, qt_13, H⟩ := H
    go_wp2_with fail
    go_at_call 163
    refine (Go.Proofs.Ytdbgmcgjklmkkaa.GiHasValue.C (sizes) (b_a) (b_x) A0 c0 _   (Lib.hid (Cells.below M0.out HBw_b_0.out)) N0 qt_13).mono ?_
    rintro e_t_13 wt_13 ⟨rfl, bt_13⟩
    have HBwt_13 := Lib.hid (Below.step HBw_b_0.out bt_13)
    replace kb_0_0 := cell_below bt_13 kb_0_0
    replace kb_0_1 := cell_below bt_13 kb_0_1
    replace kb_0_2 := cell_below bt_13 kb_0_2
    replace kb_0_3 := cell_below bt_13 kb_0_3
    clear bt_13
    replace H := app_hid H
    replace H := join_hid H
    cases t_13 with
    | false =>
      replace H := ite_f H
      replace H := app_hid H
      obtain rfl := ret_hid H
      go_wp2_with fail
      go_ret
      exact ⟨rfl, HBwt_13.out⟩
    | true =>
      replace H := ite_t H
      replace H := bind_hid H
      obtain ⟨t_21, qt_21, H⟩ := H
      go_wp2_with fail
      go_at_call 163
      refine (Go.Proofs.Ytdbgmcgjklmkkaa.GiHasValue.C (sizes) (b_b) (b_y) A0 c0 _   (Lib.hid (Cells.below M0.out HBwt_13.out)) N0 qt_21).mono ?_
      rintro e_t_21 wt_21 ⟨rfl, bt_21⟩
      have HBwt_21 := Lib.hid (Below.step HBwt_13.out bt_21)
      replace kb_0_0 := cell_below bt_21 kb_0_0
      replace kb_0_1 := cell_below bt_21 kb_0_1
      replace kb_0_2 := cell_below bt_21 kb_0_2
      replace kb_0_3 := cell_below bt_21 kb_0_3
      clear bt_21
      replace H := app_hid H
      obtain rfl := ret_hid H
      go_wp2_with fail
      go_ret
      exact ⟨rfl, HBwt_21.out⟩
end Go.Proofs.Ytdbgmcgjklmkkaa.GiIsBan

/- cmp.isNaN[int] as a plain function, and the contract of the program's: where the plain one has an answer, the program has it. Conditions: slices read as lists. -/
namespace Go.Proofs.Ytdbgmcgjklmkkaa.GxCmpIsNaNInt
set_option linter.unusedVariables false
set_option linter.unusedSimpArgs false
open Go.RowKit
open Go.Proofs.Ytdbgmcgjklmkkaa.Rowed Go.Proofs.Ytdbgmcgjklmkkaa.Turn Go.Proofs.Ytdbgmcgjklmkkaa.Aid Go.Proofs.Ytdbgmcgjklmkkaa.GoP Go.Proofs.Ytdbgmcgjklmkkaa.GoM

def P (x : Int) : Option (Bool) :=
  some false

set_option maxRecDepth 100000 in
set_option maxHeartbeats 2000000 in
theorem C (x : Int)   (w : World)   {r : Bool} (H : Hid (P x = some r)) :
    Calls Try.prog 140 #[.int .i64 x] w (Gives (.bool r) w) := by
  have HB := Lib.hid (Below.refl w.heap.size w)
  unfold P at H
  go_enter Try.func140, Try.ntmps140
  obtain rfl := ret_hid H
  go_wp2_with fail
  go_ret
  exact ⟨rfl, HB.out⟩

set_option maxRecDepth 100000 in
set_option maxHeartbeats 2000000 in
theorem C0 (x : Int)   (w : World)   {r : Bool} (H : Hid (P x = some r)) :
    Calls Try.prog 140 #[.int .i64 x] w (fun e w'' => e = .returned (.bool r) ∧ w'' = w) := by
  have HB := Lib.hid (Below.refl w.heap.size w)
  unfold P at H
  go_enter Try.func140, Try.ntmps140
  obtain rfl := ret_hid H
  go_wp2_with fail
  go_ret
  exact ⟨rfl, rfl⟩
end Go.Proofs.Ytdbgmcgjklmkkaa.GxCmpIsNaNInt

/- cmp.Compare[int] as a plain function, and the contract of the program's: where the plain one has an answer, the program has it. Conditions: slices read as lists. -/
namespace Go.Proofs.Ytdbgmcgjklmkkaa.GxCmpCompareInt
set_option linter.unusedVariables false
set_option linter.unusedSimpArgs false
open Go.RowKit
open Go.Proofs.Ytdbgmcgjklmkkaa.Rowed Go.Proofs.Ytdbgmcgjklmkkaa.Turn Go.Proofs.Ytdbgmcgjklmkkaa.Aid Go.Proofs.Ytdbgmcgjklmkkaa.GoP Go.Proofs.Ytdbgmcgjklmkkaa.GoM

def P (x : Int) (y : Int) : Option (Int) :=
  Option.bind (Go.Proofs.Ytdbgmcgjklmkkaa.GxCmpIsNaNInt.P x) fun (t_2 : Bool) =>
  Option.bind (Go.Proofs.Ytdbgmcgjklmkkaa.GxCmpIsNaNInt.P y) fun (t_5 : Bool) =>
  iteK t_2
  (iteK t_5
  (some 0)
  (some (-1)))
  (iteK t_5
  (some 1)
  (letK (decide (x < y)) fun (t_15 : Bool) =>
  iteK t_15
  (some (-1))
  (letK (decide (y < x)) fun (t_19 : Bool) =>
  iteK t_19
  (some 1)
  (some 0))))

set_option maxRecDepth 100000 in
set_option maxHeartbeats 2000000 in
theorem C (x : Int) (y : Int)   (w : World)   {r : Int} (H : Hid (P x y = some r)) :
    Calls Try.prog 90 #[.int .i64 x, .int .i64 y] w (Gives (.int .i64 r) w) := by
  have HB := Lib.hid (Below.refl w.heap.size w)
  unfold P at H
  go_enter Try.func90, Try.ntmps90
  replace H := bind_hid H
  obtain ⟨t_2, qt_2, H⟩ := H
  go_wp2_with fail
  go_at_call 140
  refine (Go.Proofs.Ytdbgmcgjklmkkaa.GxCmpIsNaNInt.C (x)  _    qt_2).mono ?_
  rintro e_t_2 wt_2 ⟨rfl, bt_2⟩
  have HBwt_2 := Lib.hid (Below.step HB.out bt_2)
  clear bt_2
  replace H := bind_hid H
  obtain ⟨t_5, qt_5, H⟩ := H
  go_wp2_with fail
  go_at_call 140
  refine (Go.Proofs.Ytdbgmcgjklmkkaa.GxCmpIsNaNInt.C (y)  _    qt_5).mono ?_
  rintro e_t_5 wt_5 ⟨rfl, bt_5⟩
  have HBwt_5 := Lib.hid (Below.step HBwt_2.out bt_5)
  clear bt_5
  cases t_2 with
  | false =>
    replace H := ite_f H
    cases t_5 with
    | false =>
      replace H := ite_f H
      replace H := let_hid H
      obtain ⟨t_15, ht_15, H⟩ := H
      cases t_15 with
      | false =>
        replace H := ite_f H
        replace H := let_hid H
        obtain ⟨t_19, ht_19, H⟩ := H
        cases t_19 with
        | false =>
          replace H := ite_f H
          obtain rfl := ret_hid H
          go_wp2_with fail
          go_ret
          exact ⟨rfl, HBwt_5.out⟩
        | true =>
          replace H := ite_t H
          obtain rfl := ret_hid H
          go_wp2_with fail
          go_ret
          exact ⟨rfl, HBwt_5.out⟩
      | true =>
        replace H := ite_t H
        obtain rfl := ret_hid H
        go_wp2_with fail
        go_ret
        exact ⟨rfl, HBwt_5.out⟩
    | true =>
      replace H := ite_t H
      obtain rfl := ret_hid H
      go_wp2_with fail
      go_ret
      exact ⟨rfl, HBwt_5.out⟩
  | true =>
    replace H := ite_t H
    cases t_5 with
    | false =>
      replace H := ite_f H
      obtain rfl := ret_hid H
      go_wp2_with fail
      go_ret
      exact ⟨rfl, HBwt_5.out⟩
    | true =>
      replace H := ite_t H
      obtain rfl := ret_hid H
      go_wp2_with fail
      go_ret
      exact ⟨rfl, HBwt_5.out⟩
end Go.Proofs.Ytdbgmcgjklmkkaa.GxCmpCompareInt

/- cmp.Or[int] as a plain function, and the contract of the program's: where the plain one has an answer, the program has it. Conditions: slices read as lists. -/
namespace Go.Proofs.Ytdbgmcgjklmkkaa.GxCmpOrInt
set_option linter.unusedVariables false
set_option linter.unusedSimpArgs false
open Go.RowKit
open Go.Proofs.Ytdbgmcgjklmkkaa.Rowed Go.Proofs.Ytdbgmcgjklmkkaa.Turn Go.Proofs.Ytdbgmcgjklmkkaa.Aid Go.Proofs.Ytdbgmcgjklmkkaa.GoP Go.Proofs.Ytdbgmcgjklmkkaa.GoM

def l0 (vals : (List Int)) (k0 : Nat) (s : Unit) (nx0 bk0 : Unit → Option (Int)) : Option (Int) :=
  
  Option.bind (idx vals (k0 : Int)) fun (yt_6 : Int) =>
  letK (yt_6 != 0) fun (t_11 : Bool) =>
  iteK t_11
  (some yt_6)
  (appK nx0 ())

def e0  (s : Unit) : Option (Int) :=
  
  some 0

def P (vals : (List Int)) : Option (Int) :=
  cntK (l0 vals) (vals.length) 0 () (e0 )

set_option maxRecDepth 100000 in
set_option maxHeartbeats 2000000 in
theorem C (vals : (List Int)) (A0 : Option Addr) (c0 : Nat)  (w : World) (M0 : Hid (Cells w 1 A0 vals.length (Go.Proofs.Ytdbgmcgjklmkkaa.HelpInt.iv vals))) (N0 : Hid (vals.length ≤ 9223372036854775807))  {r : Int} (H : Hid (P vals = some r)) :
    Calls Try.prog 160 #[.slice A0 vals.length c0] w (Gives (.int .i64 r) w) := by
  have HB := Lib.hid (Below.refl w.heap.size w)
  unfold P at H
  have N0o := N0.out
  go_enter Try.func160, Try.ntmps160
  go_wp2_with fail
  go_loopg [8] (vals.length) (fun m_ v8_ wr => ∃ (k0 : Nat) , k0 + m_ = vals.length ∧ v8_ = .int .i64 (k0 : Int) ∧ Hid (cntK (l0 vals) m_ k0 () (e0 ) = some r) ∧ Hid (Below w.heap.size w wr))
  case atStart => exact ⟨0, by omega, rfl, H, HB⟩
  case round =>
    obtain ⟨k0, hkm0, rfl, H, HBwr0⟩ := hrel
    rename World => wr0
    cases gk with
    | zero =>
      obtain rfl : k0 = vals.length := by omega
      have hc0 : decide (((vals.length : Nat) : Int) < ((vals.length : Nat) : Int)) = false := by simp
      replace H := cnt_zero H
      unfold e0 at H
      obtain rfl := ret_hid H
      go_wp2_with fail
      go_ret
      exact ⟨rfl, HBwr0.out⟩
    | succ m0 =>
      have hlt0 : k0 < vals.length := by omega
      have hc0 : decide ((k0 : Int) < ((vals.length : Nat) : Int)) = true := by simp; omega
      replace H := cnt_succ H
      unfold l0 at H
      replace H := idx_hid H
      obtain ⟨nt_6, yt_6, et_6, lt_6, gt_6, H⟩ := H
      obtain rfl : k0 = nt_6 := by omega
      clear et_6
      obtain ⟨ab_t_6, ao_t_6, zt_6, At_6, z_t_6, ct_6_0⟩ := Go.Proofs.Ytdbgmcgjklmkkaa.HelpInt.Ints.at_ M0.out lt_6
      obtain rfl := Option.some.inj (gt_6.out.symm.trans z_t_6)
      subst At_6
      have ltt_6 := cell_lt ct_6_0
      replace ct_6_0 := cell_below HBwr0.out ct_6_0
      clear z_t_6
      have b0t_6 : (0 : Int) ≤ (k0 : Int) := by omega
      have b1t_6 : (k0 : Int) < ((vals.length : Nat) : Int) := by omega
      have b2t_6 : ((k0 : Int)).toNat = k0 := by omega
      replace H := let_hid H
      obtain ⟨t_11, ht_11, H⟩ := H
      cases t_11 with
      | false =>
        replace H := ite_f H
        replace H := app_hid H
        go_wp2_with fail
        go_roundg m0
        case measure => omega
        case rel => exact ⟨k0 + 1, by omega, by go_num, H, HBwr0⟩
      | true =>
        replace H := ite_t H
        obtain rfl := ret_hid H
        go_wp2_with fail
        go_ret
        exact ⟨rfl, HBwr0.out⟩
end Go.Proofs.Ytdbgmcgjklmkkaa.GxCmpOrInt

/- loop.example/g01062/impl.compareBans as a plain function, and the contract of the program's: where the plain one has an answer, the program has it. Conditions: slices read as lists. -/
namespace Go.Proofs.Ytdbgmcgjklmkkaa.GiCompareBans
set_option linter.unusedVariables false
set_option linter.unusedSimpArgs false
open Go.RowKit
open Go.Proofs.Ytdbgmcgjklmkkaa.Rowed Go.Proofs.Ytdbgmcgjklmkkaa.Turn Go.Proofs.Ytdbgmcgjklmkkaa.Aid Go.Proofs.Ytdbgmcgjklmkkaa.GoP Go.Proofs.Ytdbgmcgjklmkkaa.GoM

def P (a : Go.Proofs.Ytdbgmcgjklmkkaa.PBan.Ban) (b : Go.Proofs.Ytdbgmcgjklmkkaa.PBan.Ban) : Option (Int) :=
  unBan a fun (a_a : Int) (a_x : Int) (a_b : Int) (a_y : Int) =>
  unBan b fun (b_a : Int) (b_x : Int) (b_b : Int) (b_y : Int) =>
  Option.bind (Go.Proofs.Ytdbgmcgjklmkkaa.GxCmpCompareInt.P a_a b_a) fun (t_7 : Int) =>
  Option.bind (Go.Proofs.Ytdbgmcgjklmkkaa.GxCmpCompareInt.P a_x b_x) fun (t_12 : Int) =>
  Option.bind (Go.Proofs.Ytdbgmcgjklmkkaa.GxCmpCompareInt.P a_b b_b) fun (t_17 : Int) =>
  Option.bind (Go.Proofs.Ytdbgmcgjklmkkaa.GxCmpCompareInt.P a_y b_y) fun (t_22 : Int) =>
  letK ([t_7, t_12, t_17, t_22]) fun (t_23 : (List Int)) =>
  Option.bind (Go.Proofs.Ytdbgmcgjklmkkaa.GxCmpOrInt.P t_23) fun (t_24 : Int) =>
  some t_24

set_option maxRecDepth 100000 in
set_option maxHeartbeats 2000000 in
theorem C (a : Go.Proofs.Ytdbgmcgjklmkkaa.PBan.Ban) (b : Go.Proofs.Ytdbgmcgjklmkkaa.PBan.Ban)   (w : World)   {r : Int} (H : Hid (P a b = some r)) :
    Calls Try.prog 121 #[a.val, b.val] w (Gives (.int .i64 r) w) := by
  have HB := Lib.hid (Below.refl w.heap.size w)
  unfold P at H
  obtain ⟨a_a, a_x, a_b, a_y⟩ := a
  replace H := unBan_hid H
  obtain ⟨b_a, b_x, b_b, b_y⟩ := b
  replace H := unBan_hid H
  unfold Go.Proofs.Ytdbgmcgjklmkkaa.PBan.Ban.val
  go_enter Try.func121, Try.ntmps121
  obtain ⟨w_a_0, hw_a_0⟩ : ∃ x, w.alloc (.cells #[.int .i64 a_a, .int .i64 a_x, .int .i64 a_b, .int .i64 a_y] 96) = x := ⟨_, rfl⟩
  have bw_a_0 : Below w.heap.size w w_a_0 := by rw [← hw_a_0]; exact (Below.refl _ _).alloc (Nat.le_refl _) _
  have HBw_a_0 := Lib.hid (Below.step HB.out bw_a_0)
  clear bw_a_0
  have ka_0_0 : w_a_0.cell? ⟨w.heap.size, 0, none⟩ = some (.int .i64 a_a) := by rw [← hw_a_0]; exact box_new _ _ _ 0 _ rfl
  have ka_0_1 : w_a_0.cell? ⟨w.heap.size, 1, none⟩ = some (.int .i64 a_x) := by rw [← hw_a_0]; exact box_new _ _ _ 1 _ rfl
  have ka_0_2 : w_a_0.cell? ⟨w.heap.size, 2, none⟩ = some (.int .i64 a_b) := by rw [← hw_a_0]; exact box_new _ _ _ 2 _ rfl
  have ka_0_3 : w_a_0.cell? ⟨w.heap.size, 3, none⟩ = some (.int .i64 a_y) := by rw [← hw_a_0]; exact box_new _ _ _ 3 _ rfl
  obtain ⟨w_b_1, hw_b_1⟩ : ∃ x, w_a_0.alloc (.cells #[.int .i64 b_a, .int .i64 b_x, .int .i64 b_b, .int .i64 b_y] 96) = x := ⟨_, rfl⟩
  have bw_b_1 : Below w_a_0.heap.size w_a_0 w_b_1 := by rw [← hw_b_1]; exact (Below.refl _ _).alloc (Nat.le_refl _) _
  have HBw_b_1 := Lib.hid (Below.step HBw_a_0.out bw_b_1)
  have ka_0_0__193 := cell_below bw_b_1 ka_0_0
  have ka_0_1__194 := cell_below bw_b_1 ka_0_1
  have ka_0_2__195 := cell_below bw_b_1 ka_0_2
  have ka_0_3__196 := cell_below bw_b_1 ka_0_3
  clear bw_b_1
  have kb_1_0 : w_b_1.cell? ⟨w_a_0.heap.size, 0, none⟩ = some (.int .i64 b_a) := by rw [← hw_b_1]; exact box_new _ _ _ 0 _ rfl
  have kb_1_1 : w_b_1.cell? ⟨w_a_0.heap.size, 1, none⟩ = some (.int .i64 b_x) := by rw [← hw_b_1]; exact box_new _ _ _ 1 _ rfl
  have kb_1_2 : w_b_1.cell? ⟨w_a_0.heap.size, 2, none⟩ = some (.int .i64 b_b) := by rw [← hw_b_1]; exact box_new _ _ _ 2 _ rfl
  have kb_1_3 : w_b_1.cell? ⟨w_a_0.heap.size, 3, none⟩ = some (.int .i64 b_y) := by rw [← hw_b_1]; exact box_new _ _ _ 3 _ rfl
  go_wp2_with fail
  clear ka_0_0 ka_0_1 ka_0_2 ka_0_3
  have bd1 : Below w_b_1.heap.size w_b_1 w_b_1.drew := (Below.refl _ _).drew
  have HBw_b_1.drew := Lib.hid (Below.step HBw_b_1.out bd1)
  replace ka_0_0__193 := cell_below bd1 ka_0_0__193
  replace ka_0_1__194 := cell_below bd1 ka_0_1__194
  replace ka_0_2__195 := cell_below bd1 ka_0_2__195
  replace ka_0_3__196 := cell_below bd1 ka_0_3__196
  replace kb_1_0 := cell_below bd1 kb_1_0
  replace kb_1_1 := cell_below bd1 kb_1_1
  replace kb_1_2 := cell_below bd1 kb_1_2
  replace kb_1_3 := cell_below bd1 kb_1_3
  clear bd1
  replace H := bind_hid H
  obtain ⟨t_7, qt_7, H⟩ := H
  replace H := bind_hid H
  obtain ⟨t_12, qt_12, H⟩ := H
  replace H := bind_hid H
  obtain ⟨t_17, qt_17, H⟩ := H
  replace H := bind_hid H
  obtain ⟨t_22, qt_22, H⟩ := H
  replace H := let_hid H
  obtain ⟨t_23, ht_23, H⟩ := H
  replace H := bind_hid H
  obtain ⟨t_24, qt_24, H⟩ := H
  go_region_held3 (fun w' => w'.cell? ⟨w.heap.size, 0, none⟩ = some (.int .i64 a_a) ∧ w'.cell? ⟨w.heap.size, 1, none⟩ = some (.int .i64 a_x) ∧ w'.cell? ⟨w.heap.size, 2, none⟩ = some (.int .i64 a_b) ∧ w'.cell? ⟨w.heap.size, 3, none⟩ = some (.int .i64 a_y) ∧ w'.cell? ⟨w_a_0.heap.size, 0, none⟩ = some (.int .i64 b_a) ∧ w'.cell? ⟨w_a_0.heap.size, 1, none⟩ = some (.int .i64 b_x) ∧ w'.cell? ⟨w_a_0.heap.size, 2, none⟩ = some (.int .i64 b_b) ∧ w'.cell? ⟨w_a_0.heap.size, 3, none⟩ = some (.int .i64 b_y)) (first | exact ⟨ka_0_0__193, ka_0_1__194, ka_0_2__195, ka_0_3__196, kb_1_0, kb_1_1, kb_1_2, kb_1_3⟩ | exact ⟨ka_0_0__197, ka_0_1__198, ka_0_2__199, ka_0_3__200, kb_1_0__201, kb_1_1__202, kb_1_2__203, kb_1_3__204⟩)
      (first
        | (go_at_call 90
           refine (Go.Proofs.Ytdbgmcgjklmkkaa.GxCmpCompareInt.C (a_a) (b_a)  _    qt_7).mono ?_
           rintro e_t_7 wt_7 ⟨rfl, bt_7⟩
           have HBwt_7 := Lib.hid (Below.step HBw_b_1.drew.out bt_7)
           replace ka_0_0__193 := cell_below bt_7 ka_0_0__193
           replace ka_0_1__194 := cell_below bt_7 ka_0_1__194
           replace ka_0_2__195 := cell_below bt_7 ka_0_2__195
           replace ka_0_3__196 := cell_below bt_7 ka_0_3__196
           replace kb_1_0 := cell_below bt_7 kb_1_0
           replace kb_1_1 := cell_below bt_7 kb_1_1
           replace kb_1_2 := cell_below bt_7 kb_1_2
           replace kb_1_3 := cell_below bt_7 kb_1_3
           clear bt_7
           clear qt_7)
        | (go_at_call 90
           refine (Go.Proofs.Ytdbgmcgjklmkkaa.GxCmpCompareInt.C (a_x) (b_x)  _    qt_12).mono ?_
           rintro e_t_12 wt_12 ⟨rfl, bt_12⟩
           have HBwt_12 := Lib.hid (Below.step HBwt_7.out bt_12)
           replace ka_0_0__193 := cell_below bt_12 ka_0_0__193
           replace ka_0_1__194 := cell_below bt_12 ka_0_1__194
           replace ka_0_2__195 := cell_below bt_12 ka_0_2__195
           replace ka_0_3__196 := cell_below bt_12 ka_0_3__196
           replace kb_1_0 := cell_below bt_12 kb_1_0
           replace kb_1_1 := cell_below bt_12 kb_1_1
           replace kb_1_2 := cell_below bt_12 kb_1_2
           replace kb_1_3 := cell_below bt_12 kb_1_3
           clear bt_12
           clear qt_12)
        | (go_at_call 90
           refine (Go.Proofs.Ytdbgmcgjklmkkaa.GxCmpCompareInt.C (a_b) (b_b)  _    qt_17).mono ?_
           rintro e_t_17 wt_17 ⟨rfl, bt_17⟩
           have HBwt_17 := Lib.hid (Below.step HBwt_12.out bt_17)
           replace ka_0_0__193 := cell_below bt_17 ka_0_0__193
           replace ka_0_1__194 := cell_below bt_17 ka_0_1__194
           replace ka_0_2__195 := cell_below bt_17 ka_0_2__195
           replace ka_0_3__196 := cell_below bt_17 ka_0_3__196
           replace kb_1_0 := cell_below bt_17 kb_1_0
           replace kb_1_1 := cell_below bt_17 kb_1_1
           replace kb_1_2 := cell_below bt_17 kb_1_2
           replace kb_1_3 := cell_below bt_17 kb_1_3
           clear bt_17
           clear qt_17)
        | (go_at_call 90
           refine (Go.Proofs.Ytdbgmcgjklmkkaa.GxCmpCompareInt.C (a_y) (b_y)  _    qt_22).mono ?_
           rintro e_t_22 wt_22 ⟨rfl, bt_22⟩
           have HBwt_22 := Lib.hid (Below.step HBwt_17.out bt_22)
           replace ka_0_0__193 := cell_below bt_22 ka_0_0__193
           replace ka_0_1__194 := cell_below bt_22 ka_0_1__194
           replace ka_0_2__195 := cell_below bt_22 ka_0_2__195
           replace ka_0_3__196 := cell_below bt_22 ka_0_3__196
           replace kb_1_0 := cell_below bt_22 kb_1_0
           replace kb_1_1 := cell_below bt_22 kb_1_1
           replace kb_1_2 := cell_below bt_22 kb_1_2
           replace kb_1_3 := cell_below bt_22 kb_1_3
           clear bt_22
           clear qt_22
           obtain ⟨w_t_23, hw_t_23⟩ : ∃ x, wt_22.alloc (.cells #[.int .i64 t_7, .int .i64 t_12, .int .i64 t_17, .int .i64 t_22] 3) = x := ⟨_, rfl⟩
           have bw_t_23 : Below wt_22.heap.size wt_22 w_t_23 := by rw [← hw_t_23]; exact (Below.refl _ _).alloc (Nat.le_refl _) _
           have hs_t_23 := HBwt_22.out.size
           have nt_23 : t_23.length = 4 := by rw [← ht_23]; rfl
           have Ot_23 : Hid (w_t_23.ownsRow w.heap.size 3 1 (.slice (some ⟨wt_22.heap.size, 0, none⟩) 4 4) 4 (Go.Proofs.Ytdbgmcgjklmkkaa.HelpInt.iv t_23)) := by
             rw [← hw_t_23, ← ht_23]
             have e_ : ([.int .i64 t_7, .int .i64 t_12, .int .i64 t_17, .int .i64 t_22] : List Value) = (Go.Proofs.Ytdbgmcgjklmkkaa.HelpInt.iv ([t_7, t_12, t_17, t_22] : List Int)) := rfl
             exact Lib.hid (own_laid (n := 4) hs_t_23 e_ rfl (by unfold maxLen; omega))
           clear hs_t_23
           have hht_23 := Lib.hid ht_23
           clear ht_23
           replace nt_23 := Lib.hid nt_23
           have Dt_23_a_0 := Lib.hid (apart_box ka_0_0__193)
           have Dt_23_b_1 := Lib.hid (apart_box kb_1_0)
           have HBw_t_23 := Lib.hid (Below.step HBwt_22.out bw_t_23)
           have ka_0_0__197 := cell_below bw_t_23 ka_0_0__193
           have ka_0_1__198 := cell_below bw_t_23 ka_0_1__194
           have ka_0_2__199 := cell_below bw_t_23 ka_0_2__195
           have ka_0_3__200 := cell_below bw_t_23 ka_0_3__196
           have kb_1_0__201 := cell_below bw_t_23 kb_1_0
           have kb_1_1__202 := cell_below bw_t_23 kb_1_1
           have kb_1_2__203 := cell_below bw_t_23 kb_1_2
           have kb_1_3__204 := cell_below bw_t_23 kb_1_3
           clear bw_t_23)
        | (have hc0_ := nt_23.out
           have Oct_24_1 := Lib.hid (own_len hc0_ Ot_23.out)
           have con_ := Go.Proofs.Ytdbgmcgjklmkkaa.GxCmpOrInt.C (t_23) (some ⟨wt_22.heap.size, 0, none⟩) 4 _   (Lib.hid (own_cells Oct_24_1.out)) (Lib.hid (own_max Oct_24_1.out)) qt_24
           rw [hc0_] at con_
           clear hc0_ Oct_24_1
           go_at_call 160
           refine con_.mono ?_
           rintro e_t_24 wt_24 ⟨rfl, bt_24⟩
           have HBwt_24 := Lib.hid (Below.step HBw_t_23.out bt_24)
           replace ka_0_0__197 := cell_below bt_24 ka_0_0__197
           replace ka_0_1__198 := cell_below bt_24 ka_0_1__198
           replace ka_0_2__199 := cell_below bt_24 ka_0_2__199
           replace ka_0_3__200 := cell_below bt_24 ka_0_3__200
           replace kb_1_0__201 := cell_below bt_24 kb_1_0__201
           replace kb_1_1__202 := cell_below bt_24 kb_1_1__202
           replace kb_1_2__203 := cell_below bt_24 kb_1_2__203
           replace kb_1_3__204 := cell_below bt_24 kb_1_3__204
           replace Ot_23 := Lib.hid (own_below Ot_23.out bt_24)
           clear bt_24
           clear qt_24))
  try clear ka_0_0__193
  try clear ka_0_1__194
  try clear ka_0_2__195
  try clear ka_0_3__196
  try clear kb_1_0
  try clear kb_1_1
  try clear kb_1_2
  try clear kb_1_3
  obtain rfl := ret_hid H
  go_wp2_with fail
  go_ret
  exact ⟨rfl, HBwt_24.out⟩
end Go.Proofs.Ytdbgmcgjklmkkaa.GiCompareBans

/- loop.example/g01062/impl.IsKindTable as a plain function, and the contract of the program's: where the plain one has an answer, the program has it. Conditions: slices read as lists. -/
namespace Go.Proofs.Ytdbgmcgjklmkkaa.GiIsKindTable
set_option linter.unusedVariables false
set_option linter.unusedSimpArgs false
open Go.RowKit
open Go.Proofs.Ytdbgmcgjklmkkaa.Rowed Go.Proofs.Ytdbgmcgjklmkkaa.Turn Go.Proofs.Ytdbgmcgjklmkkaa.Aid Go.Proofs.Ytdbgmcgjklmkkaa.GoP Go.Proofs.Ytdbgmcgjklmkkaa.GoM

def l0 (t_sizes : (List Int)) (k0 : Nat) (s : Unit) (nx0 bk0 : Unit → Option (Bool)) : Option (Bool) :=
  
  Option.bind (idx t_sizes (k0 : Int)) fun (yt_19 : Int) =>
  Option.bind (Go.Proofs.Ytdbgmcgjklmkkaa.GiWithin.P yt_19 1 5) fun (t_23 : Bool) =>
  letK (!t_23) fun (t_24 : Bool) =>
  iteK t_24
  (some false)
  (appK nx0 ())

def l1 (t_sizes : (List Int)) (t_bans : (List Go.Proofs.Ytdbgmcgjklmkkaa.PBan.Ban)) (k1 : Nat) (s : Unit) (nx1 bk1 : Unit → Option (Bool)) : Option (Bool) :=
  
  Option.bind (idx t_bans (k1 : Int)) fun (yt_34 : Go.Proofs.Ytdbgmcgjklmkkaa.PBan.Ban) =>
  unBan yt_34 fun (t_34_a : Int) (t_34_x : Int) (t_34_b : Int) (t_34_y : Int) =>
  Option.bind (Go.Proofs.Ytdbgmcgjklmkkaa.GiIsBan.P t_sizes (Go.Proofs.Ytdbgmcgjklmkkaa.PBan.Ban.mk t_34_a t_34_x t_34_b t_34_y)) fun (t_42 : Bool) =>
  letK (!t_42) fun (t_43 : Bool) =>
  joinK (fun (t_58 : Bool) =>
  iteK t_58
  (some false)
  (appK nx1 ())) fun jt_58 => iteK t_43 (appK jt_58 true) (letK (decide (0 < (k1 : Int))) fun (t_46 : Bool) =>
  joinK (fun (t_57 : Bool) =>
  appK jt_58 t_57) fun jt_57 => iteK t_46 (letK (IntKind.i64.wrap ((k1 : Int) - 1)) fun (t_51 : Int) =>
  Option.bind (idx t_bans t_51) fun (yt_52 : Go.Proofs.Ytdbgmcgjklmkkaa.PBan.Ban) =>
  unBan yt_52 fun (t_52_a : Int) (t_52_x : Int) (t_52_b : Int) (t_52_y : Int) =>
  Option.bind (Go.Proofs.Ytdbgmcgjklmkkaa.GiCompareBans.P (Go.Proofs.Ytdbgmcgjklmkkaa.PBan.Ban.mk t_52_a t_52_x t_52_b t_52_y) (Go.Proofs.Ytdbgmcgjklmkkaa.PBan.Ban.mk t_34_a t_34_x t_34_b t_34_y)) fun (t_55 : Int) =>
  letK (decide (0 ≤ t_55)) fun (t_56 : Bool) =>
  appK jt_57 t_56) (appK jt_57 false))

def e1  (s : Unit) : Option (Bool) :=
  
  some true

def e0 (t_sizes : (List Int)) (t_bans : (List Go.Proofs.Ytdbgmcgjklmkkaa.PBan.Ban)) (s : Unit) : Option (Bool) :=
  
  cntK (l1 t_sizes t_bans) (t_bans.length) 0 () (e1 )

def P (t_sizes : (List Int)) (t_bans : (List Go.Proofs.Ytdbgmcgjklmkkaa.PBan.Ban)) : Option (Bool) :=
  Option.bind (Go.Proofs.Ytdbgmcgjklmkkaa.GiWithin.P (t_sizes.length : Int) 1 5) fun (t_5 : Bool) =>
  letK (!t_5) fun (t_6 : Bool) =>
  joinK (fun (t_12 : Bool) =>
  iteK t_12
  (some false)
  (cntK (l0 t_sizes) (t_sizes.length) 0 () (e0 t_sizes t_bans))) fun jt_12 => iteK t_6 (appK jt_12 true) (letK (decide (20 < (t_bans.length : Int))) fun (t_11 : Bool) =>
  appK jt_12 t_11)

set_option maxRecDepth 100000 in
set_option maxHeartbeats 2000000 in
theorem C (t_sizes : (List Int)) (t_bans : (List Go.Proofs.Ytdbgmcgjklmkkaa.PBan.Ban)) (A0_0 : Option Addr) (c0_0 : Nat) (A0_1 : Option Addr) (c0_1 : Nat)  (w : World) (M0_0 : Hid (Cells w 1 A0_0 t_sizes.length (Go.Proofs.Ytdbgmcgjklmkkaa.HelpInt.iv t_sizes))) (N0_0 : Hid (t_sizes.length ≤ 9223372036854775807)) (M0_1 : Hid (Cells w 4 A0_1 t_bans.length (Go.Proofs.Ytdbgmcgjklmkkaa.PBan.flat t_bans))) (N0_1 : Hid (t_bans.length ≤ 9223372036854775807))  {r : Bool} (H : Hid (P t_sizes t_bans = some r)) :
    Calls Try.prog 72 #[.agg #[.slice A0_0 t_sizes.length c0_0, .slice A0_1 t_bans.length c0_1]] w (Gives (.bool r) w) := by
  have HB := Lib.hid (Below.refl w.heap.size w)
  unfold P at H
  have N0_0o := N0_0.out
  have N0_1o := N0_1.out
  go_enter Try.func72, Try.ntmps72
  obtain ⟨w_t_0, hw_t_0⟩ : ∃ x, w.alloc (.cells #[.slice A0_0 t_sizes.length c0_0, .slice A0_1 t_bans.length c0_1] 31) = x := ⟨_, rfl⟩
  have bw_t_0 : Below w.heap.size w w_t_0 := by rw [← hw_t_0]; exact (Below.refl _ _).alloc (Nat.le_refl _) _
  have HBw_t_0 := Lib.hid (Below.step HB.out bw_t_0)
  clear bw_t_0
  have kt_0_0 : w_t_0.cell? ⟨w.heap.size, 0, none⟩ = some (.slice A0_0 t_sizes.length c0_0) := by rw [← hw_t_0]; exact box_new _ _ _ 0 _ rfl
  have kt_0_1 : w_t_0.cell? ⟨w.heap.size, 1, none⟩ = some (.slice A0_1 t_bans.length c0_1) := by rw [← hw_t_0]; exact box_new _ _ _ 1 _ rfl
  replace H := bind_hid H
  obtain ⟨t_5, qt_5, H⟩ := H
  go_wp2_with fail
  go_at_call 83
  refine (Go.Proofs.Ytdbgmcgjklmkkaa.GiWithin.C ((t_sizes.length : Int)) (1) (5)  _    qt_5).mono ?_
  rintro e_t_5 wt_5 ⟨rfl, bt_5⟩
  have HBwt_5 := Lib.hid (Below.step HBw_t_0.out bt_5)
  replace kt_0_0 := cell_below bt_5 kt_0_0
  replace kt_0_1 := cell_below bt_5 kt_0_1
  clear bt_5
  cases t_5 with
  | false =>
    replace H := let_hid H
    obtain ⟨t_6, ht_6, H⟩ := H
    obtain rfl : t_6 = true := ht_6.symm
    replace H := join_hid H
    replace H := ite_t H
    replace H := app_hid H
    replace H := ite_t H
    obtain rfl := ret_hid H
    go_wp2_with fail
    go_ret
    exact ⟨rfl, HBwt_5.out⟩
  | true =>
    replace H := let_hid H
    obtain ⟨t_6, ht_6, H⟩ := H
    obtain rfl : t_6 = false := ht_6.symm
    replace H := join_hid H
    replace H := ite_f H
    replace H := let_hid H
    obtain ⟨t_11, ht_11, H⟩ := H
    replace H := app_hid H
    cases t_11 with
    | false =>
      have nht_11 : ¬ (20 < t_bans.length) := by have := of_decide_eq_false ht_11; omega
      replace H := ite_f H
      go_wp2_with fail
      go_loopg [21] (t_sizes.length) (fun m_ v21_ wr => ∃ (k0 : Nat) , k0 + m_ = t_sizes.length ∧ v21_ = .int .i64 (k0 : Int) ∧ Hid (cntK (l0 t_sizes) m_ k0 () (e0 t_sizes t_bans) = some r) ∧ Hid (Below w.heap.size w wr) ∧ wr.cell? ⟨w.heap.size, 0, none⟩ = some (.slice A0_0 t_sizes.length c0_0) ∧ wr.cell? ⟨w.heap.size, 1, none⟩ = some (.slice A0_1 t_bans.length c0_1))
      case atStart => exact ⟨0, by omega, rfl, H, HBwt_5, kt_0_0, kt_0_1⟩
      case round =>
        obtain ⟨k0, hkm0, rfl, H, HBwr0, kt_0_0, kt_0_1⟩ := hrel
        rename World => wr0
        cases gk with
        | zero =>
          obtain rfl : k0 = t_sizes.length := by omega
          have hc0 : decide (((t_sizes.length : Nat) : Int) < ((t_sizes.length : Nat) : Int)) = false := by simp
          replace H := cnt_zero H
          unfold e0 at H
          go_wp2_with fail
          go_loopg [32] (t_bans.length) (fun m_ v32_ wr => ∃ (k1 : Nat) , k1 + m_ = t_bans.length ∧ v32_ = .int .i64 (k1 : Int) ∧ Hid (cntK (l1 t_sizes t_bans) m_ k1 () (e1 ) = some r) ∧ Hid (Below w.heap.size w wr) ∧ wr.cell? ⟨w.heap.size, 0, none⟩ = some (.slice A0_0 t_sizes.length c0_0) ∧ wr.cell? ⟨w.heap.size, 1, none⟩ = some (.slice A0_1 t_bans.length c0_1))
          case atStart => exact ⟨0, by omega, rfl, H, HBwr0, kt_0_0, kt_0_1⟩
          case round =>
            obtain ⟨k1, hkm1, rfl, H, HBwr1, kt_0_0, kt_0_1⟩ := hrel
            rename World => wr1
            cases gk with
            | zero =>
              obtain rfl : k1 = t_bans.length := by omega
              have hc1 : decide (((t_bans.length : Nat) : Int) < ((t_bans.length : Nat) : Int)) = false := by simp
              replace H := cnt_zero H
              unfold e1 at H
              obtain rfl := ret_hid H
              go_wp2_with fail
              go_ret
              exact ⟨rfl, HBwr1.out⟩
            | succ m1 =>
              have hlt1 : k1 < t_bans.length := by omega
              have hc1 : decide ((k1 : Int) < ((t_bans.length : Nat) : Int)) = true := by simp; omega
              replace H := cnt_succ H
              unfold l1 at H
              replace H := idx_hid H
              obtain ⟨nt_34, yt_34, et_34, lt_34, gt_34, H⟩ := H
              obtain rfl : k1 = nt_34 := by omega
              clear et_34
              obtain ⟨t_34_a, t_34_x, t_34_b, t_34_y⟩ := yt_34
              replace H := unBan_hid H
              obtain ⟨ab_t_34, ao_t_34, zt_34, At_34, z_t_34, ct_34_0, ct_34_1, ct_34_2, ct_34_3⟩ := Go.Proofs.Ytdbgmcgjklmkkaa.OBan.at_ M0_1.out lt_34
              obtain rfl := Option.some.inj (gt_34.out.symm.trans z_t_34)
              subst At_34
              have ltt_34 := cell_lt ct_34_0
              replace ct_34_0 := cell_below HBwr1.out ct_34_0
              replace ct_34_1 := cell_below HBwr1.out ct_34_1
              replace ct_34_2 := cell_below HBwr1.out ct_34_2
              replace ct_34_3 := cell_below HBwr1.out ct_34_3
              clear z_t_34
              have b0t_34 : (0 : Int) ≤ (k1 : Int) := by omega
              have b1t_34 : (k1 : Int) < ((t_bans.length : Nat) : Int) := by omega
              have b2t_34 : ((k1 : Int)).toNat = k1 := by omega
              obtain ⟨w_b_36, hw_b_36⟩ : ∃ x, wr1.alloc (.cells #[.int .i64 t_34_a, .int .i64 t_34_x, .int .i64 t_34_b, .int .i64 t_34_y] 96) = x := ⟨_, rfl⟩
              have bw_b_36 : Below wr1.heap.size wr1 w_b_36 := by rw [← hw_b_36]; exact (Below.refl _ _).alloc (Nat.le_refl _) _
              have HBw_b_36 := Lib.hid (Below.step HBwr1.out bw_b_36)
              have kt_0_0__205 := cell_below bw_b_36 kt_0_0
              have kt_0_1__206 := cell_below bw_b_36 kt_0_1
              have ct_34_0__207 := cell_below bw_b_36 ct_34_0
              have ct_34_1__208 := cell_below bw_b_36 ct_34_1
              have ct_34_2__209 := cell_below bw_b_36 ct_34_2
              have ct_34_3__210 := cell_below bw_b_36 ct_34_3
              clear bw_b_36
              have kb_36_0 : w_b_36.cell? ⟨wr1.heap.size, 0, none⟩ = some (.int .i64 t_34_a) := by rw [← hw_b_36]; exact box_new _ _ _ 0 _ rfl
              have kb_36_1 : w_b_36.cell? ⟨wr1.heap.size, 1, none⟩ = some (.int .i64 t_34_x) := by rw [← hw_b_36]; exact box_new _ _ _ 1 _ rfl
              have kb_36_2 : w_b_36.cell? ⟨wr1.heap.size, 2, none⟩ = some (.int .i64 t_34_b) := by rw [← hw_b_36]; exact box_new _ _ _ 2 _ rfl
              have kb_36_3 : w_b_36.cell? ⟨wr1.heap.size, 3, none⟩ = some (.int .i64 t_34_y) := by rw [← hw_b_36]; exact box_new _ _ _ 3 _ rfl
              go_wp2_with fail
              clear kt_0_0 kt_0_1 ct_34_0 ct_34_1 ct_34_2 ct_34_3
              have Hkt_0_0__205 := Lib.hid kt_0_0__205
              replace kt_0_0__205 := cell_regrown kt_0_0__205
              have Hkt_0_1__206 := Lib.hid kt_0_1__206
              replace kt_0_1__206 := cell_regrown kt_0_1__206
              have Hct_34_0__207 := Lib.hid ct_34_0__207
              replace ct_34_0__207 := cell_regrown ct_34_0__207
              have Hct_34_1__208 := Lib.hid ct_34_1__208
              replace ct_34_1__208 := cell_regrown ct_34_1__208
              have Hct_34_2__209 := Lib.hid ct_34_2__209
              replace ct_34_2__209 := cell_regrown ct_34_2__209
              have Hct_34_3__210 := Lib.hid ct_34_3__210
              replace ct_34_3__210 := cell_regrown ct_34_3__210
              have Hkb_36_0 := Lib.hid kb_36_0
              replace kb_36_0 := cell_regrown kb_36_0
              have Hkb_36_1 := Lib.hid kb_36_1
              replace kb_36_1 := cell_regrown kb_36_1
              have Hkb_36_2 := Lib.hid kb_36_2
              replace kb_36_2 := cell_regrown kb_36_2
              have Hkb_36_3 := Lib.hid kb_36_3
              replace kb_36_3 := cell_regrown kb_36_3
              replace H := bind_hid H
              obtain ⟨t_42, qt_42, H⟩ := H
              have nt_42 : ∀ d os, Calls Try.prog 128 #[.slice A0_0 t_sizes.length c0_0, .agg #[.int .i64 t_34_a, .int .i64 t_34_x, .int .i64 t_34_b, .int .i64 t_34_y]] (Go.Sort.grow (redrawn w_b_36 d) os) fun e w'' => e = .returned (.bool t_42) ∧ ∃ p : Regrown, w'' = Go.Sort.grow (redrawn w_b_36 p.d) p.os := fun d os => Calls.regrown_of (Go.Proofs.Ytdbgmcgjklmkkaa.GiIsBan.C (t_sizes) ((Go.Proofs.Ytdbgmcgjklmkkaa.PBan.Ban.mk t_34_a t_34_x t_34_b t_34_y)) A0_0 c0_0 _   (Lib.hid (Cells.below (Cells.below M0_0.out HBw_b_36.out) (below_regrown _ _ _))) N0_0 qt_42)
              cases t_42 with
              | false =>
                replace H := let_hid H
                obtain ⟨t_43, ht_43, H⟩ := H
                obtain rfl : t_43 = true := ht_43.symm
                replace H := join_hid H
                replace H := ite_t H
                replace H := app_hid H
                refine wp_region_quiet_below (by kernel_rfl) (by kernel_rfl) ?_
                repeat (go_big_quiet_step (first | (go_at_call 128; exact nt_42 _ _)))
                refine wpQuiet_nil ?_
                intro Y12 hY12
                replace hY12 := below_class hY12
                clear nt_42
                replace kt_0_0__205 := Hkt_0_0__205.out
                clear Hkt_0_0__205
                replace kt_0_1__206 := Hkt_0_1__206.out
                clear Hkt_0_1__206
                replace ct_34_0__207 := Hct_34_0__207.out
                clear Hct_34_0__207
                replace ct_34_1__208 := Hct_34_1__208.out
                clear Hct_34_1__208
                replace ct_34_2__209 := Hct_34_2__209.out
                clear Hct_34_2__209
                replace ct_34_3__210 := Hct_34_3__210.out
                clear Hct_34_3__210
                replace kb_36_0 := Hkb_36_0.out
                clear Hkb_36_0
                replace kb_36_1 := Hkb_36_1.out
                clear Hkb_36_1
                replace kb_36_2 := Hkb_36_2.out
                clear Hkb_36_2
                replace kb_36_3 := Hkb_36_3.out
                clear Hkb_36_3
                have HBY12 := Lib.hid (Below.step HBw_b_36.out hY12)
                replace kt_0_0__205 := cell_below hY12 kt_0_0__205
                replace kt_0_1__206 := cell_below hY12 kt_0_1__206
                replace ct_34_0__207 := cell_below hY12 ct_34_0__207
                replace ct_34_1__208 := cell_below hY12 ct_34_1__208
                replace ct_34_2__209 := cell_below hY12 ct_34_2__209
                replace ct_34_3__210 := cell_below hY12 ct_34_3__210
                replace kb_36_0 := cell_below hY12 kb_36_0
                replace kb_36_1 := cell_below hY12 kb_36_1
                replace kb_36_2 := cell_below hY12 kb_36_2
                replace kb_36_3 := cell_below hY12 kb_36_3
                clear hY12
                replace H := ite_t H
                obtain rfl := ret_hid H
                go_wp2_with fail
                go_ret
                exact ⟨rfl, HBY12.out⟩
              | true =>
                replace H := let_hid H
                obtain ⟨t_43, ht_43, H⟩ := H
                obtain rfl : t_43 = false := ht_43.symm
                replace H := join_hid H
                replace H := ite_f H
                replace H := let_hid H
                obtain ⟨t_46, ht_46, H⟩ := H
                replace H := join_hid H
                cases t_46 with
                | false =>
                  have nht_46 : ¬ (0 < k1) := by have := of_decide_eq_false ht_46; omega
                  replace H := ite_f H
                  replace H := app_hid H
                  replace H := app_hid H
                  refine wp_region_quiet_below (by kernel_rfl) (by kernel_rfl) ?_
                  repeat (go_big_quiet_step (first | (go_at_call 128; exact nt_42 _ _)))
                  refine wpQuiet_nil ?_
                  intro Y12 hY12
                  replace hY12 := below_class hY12
                  clear nt_42
                  replace kt_0_0__205 := Hkt_0_0__205.out
                  clear Hkt_0_0__205
                  replace kt_0_1__206 := Hkt_0_1__206.out
                  clear Hkt_0_1__206
                  replace ct_34_0__207 := Hct_34_0__207.out
                  clear Hct_34_0__207
                  replace ct_34_1__208 := Hct_34_1__208.out
                  clear Hct_34_1__208
                  replace ct_34_2__209 := Hct_34_2__209.out
                  clear Hct_34_2__209
                  replace ct_34_3__210 := Hct_34_3__210.out
                  clear Hct_34_3__210
                  replace kb_36_0 := Hkb_36_0.out
                  clear Hkb_36_0
                  replace kb_36_1 := Hkb_36_1.out
                  clear Hkb_36_1
                  replace kb_36_2 := Hkb_36_2.out
                  clear Hkb_36_2
                  replace kb_36_3 := Hkb_36_3.out
                  clear Hkb_36_3
                  have HBY12 := Lib.hid (Below.step HBw_b_36.out hY12)
                  replace kt_0_0__205 := cell_below hY12 kt_0_0__205
                  replace kt_0_1__206 := cell_below hY12 kt_0_1__206
                  replace ct_34_0__207 := cell_below hY12 ct_34_0__207
                  replace ct_34_1__208 := cell_below hY12 ct_34_1__208
                  replace ct_34_2__209 := cell_below hY12 ct_34_2__209
                  replace ct_34_3__210 := cell_below hY12 ct_34_3__210
                  replace kb_36_0 := cell_below hY12 kb_36_0
                  replace kb_36_1 := cell_below hY12 kb_36_1
                  replace kb_36_2 := cell_below hY12 kb_36_2
                  replace kb_36_3 := cell_below hY12 kb_36_3
                  clear hY12
                  replace H := ite_f H
                  replace H := app_hid H
                  go_wp2_with fail
                  go_roundg m1
                  case measure => omega
                  case rel => exact ⟨k1 + 1, by omega, by go_num, H, HBY12, kt_0_0__205, kt_0_1__206⟩
                | true =>
                  have nht_46 : 0 < k1 := by have := of_decide_eq_true ht_46; omega
                  replace H := ite_t H
                  replace H := let_hid H
                  obtain ⟨t_51, ht_51, H⟩ := H
                  replace H := idx_hid H
                  obtain ⟨nt_52, yt_52, et_52, lt_52, gt_52, H⟩ := H
                  subst et_52
                  obtain ⟨t_52_a, t_52_x, t_52_b, t_52_y⟩ := yt_52
                  replace H := unBan_hid H
                  obtain ⟨ab_t_52, ao_t_52, zt_52, At_52, z_t_52, ct_52_0, ct_52_1, ct_52_2, ct_52_3⟩ := Go.Proofs.Ytdbgmcgjklmkkaa.OBan.at_ M0_1.out lt_52
                  obtain rfl := Option.some.inj (gt_52.out.symm.trans z_t_52)
                  simp only [Option.some.injEq, Addr.mk.injEq] at At_52
                  obtain ⟨rfl, rfl, _⟩ := At_52
                  have ltt_52 := cell_lt ct_52_0
                  replace ct_52_0 := cell_below HBw_b_36.out ct_52_0
                  replace ct_52_1 := cell_below HBw_b_36.out ct_52_1
                  replace ct_52_2 := cell_below HBw_b_36.out ct_52_2
                  replace ct_52_3 := cell_below HBw_b_36.out ct_52_3
                  clear z_t_52
                  have b0t_52 : (0 : Int) ≤ (nt_52 : Int) := by omega
                  have b1t_52 : (nt_52 : Int) < ((t_bans.length : Nat) : Int) := by omega
                  have b2t_52 : ((nt_52 : Int)).toNat = nt_52 := by omega
                  have Hct_52_0 := Lib.hid ct_52_0
                  replace ct_52_0 := cell_regrown ct_52_0
                  have Hct_52_1 := Lib.hid ct_52_1
                  replace ct_52_1 := cell_regrown ct_52_1
                  have Hct_52_2 := Lib.hid ct_52_2
                  replace ct_52_2 := cell_regrown ct_52_2
                  have Hct_52_3 := Lib.hid ct_52_3
                  replace ct_52_3 := cell_regrown ct_52_3
                  replace H := bind_hid H
                  obtain ⟨t_55, qt_55, H⟩ := H
                  have nt_55 : ∀ d os, Calls Try.prog 121 #[.agg #[.int .i64 t_52_a, .int .i64 t_52_x, .int .i64 t_52_b, .int .i64 t_52_y], .agg #[.int .i64 t_34_a, .int .i64 t_34_x, .int .i64 t_34_b, .int .i64 t_34_y]] (Go.Sort.grow (redrawn w_b_36 d) os) fun e w'' => e = .returned (.int .i64 t_55) ∧ ∃ p : Regrown, w'' = Go.Sort.grow (redrawn w_b_36 p.d) p.os := fun d os => Calls.regrown_of (Go.Proofs.Ytdbgmcgjklmkkaa.GiCompareBans.C ((Go.Proofs.Ytdbgmcgjklmkkaa.PBan.Ban.mk t_52_a t_52_x t_52_b t_52_y)) ((Go.Proofs.Ytdbgmcgjklmkkaa.PBan.Ban.mk t_34_a t_34_x t_34_b t_34_y))  _    qt_55)
                  replace H := let_hid H
                  obtain ⟨t_56, ht_56, H⟩ := H
                  replace H := app_hid H
                  replace H := app_hid H
                  refine wp_region_quiet_below (by kernel_rfl) (by kernel_rfl) ?_
                  repeat (go_big_quiet_step (first | (go_at_call 128; exact nt_42 _ _) | (go_at_call 121; exact nt_55 _ _)))
                  refine wpQuiet_nil ?_
                  intro Y12 hY12
                  replace hY12 := below_class hY12
                  clear nt_42 nt_55
                  replace kt_0_0__205 := Hkt_0_0__205.out
                  clear Hkt_0_0__205
                  replace kt_0_1__206 := Hkt_0_1__206.out
                  clear Hkt_0_1__206
                  replace ct_34_0__207 := Hct_34_0__207.out
                  clear Hct_34_0__207
                  replace ct_34_1__208 := Hct_34_1__208.out
                  clear Hct_34_1__208
                  replace ct_34_2__209 := Hct_34_2__209.out
                  clear Hct_34_2__209
                  replace ct_34_3__210 := Hct_34_3__210.out
                  clear Hct_34_3__210
                  replace kb_36_0 := Hkb_36_0.out
                  clear Hkb_36_0
                  replace kb_36_1 := Hkb_36_1.out
                  clear Hkb_36_1
                  replace kb_36_2 := Hkb_36_2.out
                  clear Hkb_36_2
                  replace kb_36_3 := Hkb_36_3.out
                  clear Hkb_36_3
                  replace ct_52_0 := Hct_52_0.out
                  clear Hct_52_0
                  replace ct_52_1 := Hct_52_1.out
                  clear Hct_52_1
                  replace ct_52_2 := Hct_52_2.out
                  clear Hct_52_2
                  replace ct_52_3 := Hct_52_3.out
                  clear Hct_52_3
                  have HBY12 := Lib.hid (Below.step HBw_b_36.out hY12)
                  replace kt_0_0__205 := cell_below hY12 kt_0_0__205
                  replace kt_0_1__206 := cell_below hY12 kt_0_1__206
                  replace ct_34_0__207 := cell_below hY12 ct_34_0__207
                  replace ct_34_1__208 := cell_below hY12 ct_34_1__208
                  replace ct_34_2__209 := cell_below hY12 ct_34_2__209
                  replace ct_34_3__210 := cell_below hY12 ct_34_3__210
                  replace kb_36_0 := cell_below hY12 kb_36_0
                  replace kb_36_1 := cell_below hY12 kb_36_1
                  replace kb_36_2 := cell_below hY12 kb_36_2
                  replace kb_36_3 := cell_below hY12 kb_36_3
                  replace ct_52_0 := cell_below hY12 ct_52_0
                  replace ct_52_1 := cell_below hY12 ct_52_1
                  replace ct_52_2 := cell_below hY12 ct_52_2
                  replace ct_52_3 := cell_below hY12 ct_52_3
                  clear hY12
                  cases t_56 with
                  | false =>
                    replace H := ite_f H
                    replace H := app_hid H
                    go_wp2_with fail
                    go_roundg m1
                    case measure => omega
                    case rel => exact ⟨k1 + 1, by omega, by go_num, H, HBY12, kt_0_0__205, kt_0_1__206⟩
                  | true =>
                    replace H := ite_t H
                    obtain rfl := ret_hid H
                    go_wp2_with fail
                    go_ret
                    exact ⟨rfl, HBY12.out⟩
        | succ m0 =>
          have hlt0 : k0 < t_sizes.length := by omega
          have hc0 : decide ((k0 : Int) < ((t_sizes.length : Nat) : Int)) = true := by simp; omega
          replace H := cnt_succ H
          unfold l0 at H
          replace H := idx_hid H
          obtain ⟨nt_19, yt_19, et_19, lt_19, gt_19, H⟩ := H
          obtain rfl : k0 = nt_19 := by omega
          clear et_19
          obtain ⟨ab_t_19, ao_t_19, zt_19, At_19, z_t_19, ct_19_0⟩ := Go.Proofs.Ytdbgmcgjklmkkaa.HelpInt.Ints.at_ M0_0.out lt_19
          obtain rfl := Option.some.inj (gt_19.out.symm.trans z_t_19)
          subst At_19
          have ltt_19 := cell_lt ct_19_0
          replace ct_19_0 := cell_below HBwr0.out ct_19_0
          clear z_t_19
          have b0t_19 : (0 : Int) ≤ (k0 : Int) := by omega
          have b1t_19 : (k0 : Int) < ((t_sizes.length : Nat) : Int) := by omega
          have b2t_19 : ((k0 : Int)).toNat = k0 := by omega
          replace H := bind_hid H
          obtain ⟨t_23, qt_23, H⟩ := H
          go_wp2_with fail
          go_at_call 83
          refine (Go.Proofs.Ytdbgmcgjklmkkaa.GiWithin.C (yt_19) (1) (5)  _    qt_23).mono ?_
          rintro e_t_23 wt_23 ⟨rfl, bt_23⟩
          have HBwt_23 := Lib.hid (Below.step HBwr0.out bt_23)
          replace kt_0_0 := cell_below bt_23 kt_0_0
          replace kt_0_1 := cell_below bt_23 kt_0_1
          replace ct_19_0 := cell_below bt_23 ct_19_0
          clear bt_23
          cases t_23 with
          | false =>
            replace H := let_hid H
            obtain ⟨t_24, ht_24, H⟩ := H
            obtain rfl : t_24 = true := ht_24.symm
            replace H := ite_t H
            obtain rfl := ret_hid H
            go_wp2_with fail
            go_ret
            exact ⟨rfl, HBwt_23.out⟩
          | true =>
            replace H := let_hid H
            obtain ⟨t_24, ht_24, H⟩ := H
            obtain rfl : t_24 = false := ht_24.symm
            replace H := ite_f H
            replace H := app_hid H
            go_wp2_with fail
            go_roundg m0
            case measure => omega
            case rel => exact ⟨k0 + 1, by omega, by go_num, H, HBwt_23, kt_0_0, kt_0_1⟩
    | true =>
      have nht_11 : 20 < t_bans.length := by have := of_decide_eq_true ht_11; omega
      replace H := ite_t H
      obtain rfl := ret_hid H
      go_wp2_with fail
      go_ret
      exact ⟨rfl, HBwt_5.out⟩
end Go.Proofs.Ytdbgmcgjklmkkaa.GiIsKindTable

/- loop.example/g01062/impl.forbids as a plain function, and the contract of the program's: where the plain one has an answer, the program has it. Conditions: slices read as lists. -/
namespace Go.Proofs.Ytdbgmcgjklmkkaa.GiForbids
set_option linter.unusedVariables false
set_option linter.unusedSimpArgs false
open Go.RowKit
open Go.Proofs.Ytdbgmcgjklmkkaa.Rowed Go.Proofs.Ytdbgmcgjklmkkaa.Turn Go.Proofs.Ytdbgmcgjklmkkaa.Aid Go.Proofs.Ytdbgmcgjklmkkaa.GoP Go.Proofs.Ytdbgmcgjklmkkaa.GoM

def P (b : Go.Proofs.Ytdbgmcgjklmkkaa.PBan.Ban) (kind : (List Int)) : Option (Bool) :=
  unBan b fun (b_a : Int) (b_x : Int) (b_b : Int) (b_y : Int) =>
  Option.bind (idx kind b_a) fun (yt_5 : Int) =>
  letK (yt_5 == b_x) fun (t_9 : Bool) =>
  joinK (fun (t_19 : Bool) =>
  some t_19) fun jt_19 => iteK t_9 (Option.bind (idx kind b_b) fun (yt_14 : Int) =>
  letK (yt_14 == b_y) fun (t_18 : Bool) =>
  appK jt_19 t_18) (appK jt_19 false)

set_option maxRecDepth 100000 in
set_option maxHeartbeats 2000000 in
theorem C (b : Go.Proofs.Ytdbgmcgjklmkkaa.PBan.Ban) (kind : (List Int)) (A1 : Option Addr) (c1 : Nat)  (w : World) (M1 : Hid (Cells w 1 A1 kind.length (Go.Proofs.Ytdbgmcgjklmkkaa.HelpInt.iv kind))) (N1 : Hid (kind.length ≤ 9223372036854775807))  {r : Bool} (H : Hid (P b kind = some r)) :
    Calls Try.prog 197 #[b.val, .slice A1 kind.length c1] w (Gives (.bool r) w) := by
  have HB := Lib.hid (Below.refl w.heap.size w)
  unfold P at H
  obtain ⟨b_a, b_x, b_b, b_y⟩ := b
  replace H := unBan_hid H
  unfold Go.Proofs.Ytdbgmcgjklmkkaa.PBan.Ban.val
  have N1o := N1.out
  go_enter Try.func197, Try.ntmps197
  obtain ⟨w_b_0, hw_b_0⟩ : ∃ x, w.alloc (.cells #[.int .i64 b_a, .int .i64 b_x, .int .i64 b_b, .int .i64 b_y] 96) = x := ⟨_, rfl⟩
  have bw_b_0 : Below w.heap.size w w_b_0 := by rw [← hw_b_0]; exact (Below.refl _ _).alloc (Nat.le_refl _) _
  have HBw_b_0 := Lib.hid (Below.step HB.out bw_b_0)
  clear bw_b_0
  have kb_0_0 : w_b_0.cell? ⟨w.heap.size, 0, none⟩ = some (.int .i64 b_a) := by rw [← hw_b_0]; exact box_new _ _ _ 0 _ rfl
  have kb_0_1 : w_b_0.cell? ⟨w.heap.size, 1, none⟩ = some (.int .i64 b_x) := by rw [← hw_b_0]; exact box_new _ _ _ 1 _ rfl
  have kb_0_2 : w_b_0.cell? ⟨w.heap.size, 2, none⟩ = some (.int .i64 b_b) := by rw [← hw_b_0]; exact box_new _ _ _ 2 _ rfl
  have kb_0_3 : w_b_0.cell? ⟨w.heap.size, 3, none⟩ = some (.int .i64 b_y) := by rw [← hw_b_0]; exact box_new _ _ _ 3 _ rfl
  go_wp2_with fail
  have Hkb_0_0 := Lib.hid kb_0_0
  replace kb_0_0 := cell_regrown kb_0_0
  have Hkb_0_1 := Lib.hid kb_0_1
  replace kb_0_1 := cell_regrown kb_0_1
  have Hkb_0_2 := Lib.hid kb_0_2
  replace kb_0_2 := cell_regrown kb_0_2
  have Hkb_0_3 := Lib.hid kb_0_3
  replace kb_0_3 := cell_regrown kb_0_3
  replace H := idx_hid H
  obtain ⟨nt_5, yt_5, et_5, lt_5, gt_5, H⟩ := H
  subst et_5
  obtain ⟨ab_t_5, ao_t_5, zt_5, At_5, z_t_5, ct_5_0⟩ := Go.Proofs.Ytdbgmcgjklmkkaa.HelpInt.Ints.at_ M1.out lt_5
  obtain rfl := Option.some.inj (gt_5.out.symm.trans z_t_5)
  subst At_5
  have ltt_5 := cell_lt ct_5_0
  replace ct_5_0 := cell_below HBw_b_0.out ct_5_0
  clear z_t_5
  have b0t_5 : (0 : Int) ≤ (nt_5 : Int) := by omega
  have b1t_5 : (nt_5 : Int) < ((kind.length : Nat) : Int) := by omega
  have b2t_5 : ((nt_5 : Int)).toNat = nt_5 := by omega
  have Hct_5_0 := Lib.hid ct_5_0
  replace ct_5_0 := cell_regrown ct_5_0
  replace H := let_hid H
  obtain ⟨t_9, ht_9, H⟩ := H
  replace H := join_hid H
  cases t_9 with
  | false =>
    replace H := ite_f H
    replace H := app_hid H
    refine wp_region_quiet_below (by kernel_rfl) (by kernel_rfl) ?_
    repeat (go_big_quiet_step (fail))
    refine wpQuiet_nil ?_
    intro Y1 hY1
    replace hY1 := below_class hY1
    replace kb_0_0 := Hkb_0_0.out
    clear Hkb_0_0
    replace kb_0_1 := Hkb_0_1.out
    clear Hkb_0_1
    replace kb_0_2 := Hkb_0_2.out
    clear Hkb_0_2
    replace kb_0_3 := Hkb_0_3.out
    clear Hkb_0_3
    replace ct_5_0 := Hct_5_0.out
    clear Hct_5_0
    have HBY1 := Lib.hid (Below.step HBw_b_0.out hY1)
    replace kb_0_0 := cell_below hY1 kb_0_0
    replace kb_0_1 := cell_below hY1 kb_0_1
    replace kb_0_2 := cell_below hY1 kb_0_2
    replace kb_0_3 := cell_below hY1 kb_0_3
    replace ct_5_0 := cell_below hY1 ct_5_0
    clear hY1
    obtain rfl := ret_hid H
    go_wp2_with fail
    go_ret
    exact ⟨rfl, HBY1.out⟩
  | true =>
    replace H := ite_t H
    replace H := idx_hid H
    obtain ⟨nt_14, yt_14, et_14, lt_14, gt_14, H⟩ := H
    subst et_14
    obtain ⟨ab_t_14, ao_t_14, zt_14, At_14, z_t_14, ct_14_0⟩ := Go.Proofs.Ytdbgmcgjklmkkaa.HelpInt.Ints.at_ M1.out lt_14
    obtain rfl := Option.some.inj (gt_14.out.symm.trans z_t_14)
    simp only [Option.some.injEq, Addr.mk.injEq] at At_14
    obtain ⟨rfl, rfl, _⟩ := At_14
    have ltt_14 := cell_lt ct_14_0
    replace ct_14_0 := cell_below HBw_b_0.out ct_14_0
    clear z_t_14
    have b0t_14 : (0 : Int) ≤ (nt_14 : Int) := by omega
    have b1t_14 : (nt_14 : Int) < ((kind.length : Nat) : Int) := by omega
    have b2t_14 : ((nt_14 : Int)).toNat = nt_14 := by omega
    have Hct_14_0 := Lib.hid ct_14_0
    replace ct_14_0 := cell_regrown ct_14_0
    replace H := let_hid H
    obtain ⟨t_18, ht_18, H⟩ := H
    replace H := app_hid H
    refine wp_region_quiet_below (by kernel_rfl) (by kernel_rfl) ?_
    repeat (go_big_quiet_step (fail))
    refine wpQuiet_nil ?_
    intro Y1 hY1
    replace hY1 := below_class hY1
    replace kb_0_0 := Hkb_0_0.out
    clear Hkb_0_0
    replace kb_0_1 := Hkb_0_1.out
    clear Hkb_0_1
    replace kb_0_2 := Hkb_0_2.out
    clear Hkb_0_2
    replace kb_0_3 := Hkb_0_3.out
    clear Hkb_0_3
    replace ct_5_0 := Hct_5_0.out
    clear Hct_5_0
    replace ct_14_0 := Hct_14_0.out
    clear Hct_14_0
    have HBY1 := Lib.hid (Below.step HBw_b_0.out hY1)
    replace kb_0_0 := cell_below hY1 kb_0_0
    replace kb_0_1 := cell_below hY1 kb_0_1
    replace kb_0_2 := cell_below hY1 kb_0_2
    replace kb_0_3 := cell_below hY1 kb_0_3
    replace ct_5_0 := cell_below hY1 ct_5_0
    replace ct_14_0 := cell_below hY1 ct_14_0
    clear hY1
    obtain rfl := ret_hid H
    go_wp2_with fail
    go_ret
    exact ⟨rfl, HBY1.out⟩
end Go.Proofs.Ytdbgmcgjklmkkaa.GiForbids

/- loop.example/g01062/impl.advance as a plain function, and the contract of the program's: where the plain one has an answer, the program has it. Conditions: slices read as lists. -/
namespace Go.Proofs.Ytdbgmcgjklmkkaa.GiAdvance
set_option linter.unusedVariables false
set_option linter.unusedSimpArgs false
open Go.RowKit
open Go.Proofs.Ytdbgmcgjklmkkaa.Rowed Go.Proofs.Ytdbgmcgjklmkkaa.Turn Go.Proofs.Ytdbgmcgjklmkkaa.Aid Go.Proofs.Ytdbgmcgjklmkkaa.GoP Go.Proofs.Ytdbgmcgjklmkkaa.GoM

def l0 (sizes : (List Int)) (s : (List Int) × Int) (nx0 bk0 : (List Int) × Int → Option (Bool × (List Int))) : Option (Bool × (List Int)) :=
  unp2 s fun kind_1l0 k_7l0 =>
  letK (decide (0 ≤ k_7l0)) fun (t_9 : Bool) =>
  iteK t_9
  (Option.bind (idx kind_1l0 k_7l0) fun (yt_12 : Int) =>
  letK (IntKind.i64.wrap (yt_12 + 1)) fun (t_14 : Int) =>
  Option.bind (idx kind_1l0 k_7l0) fun (yt_15 : Int) =>
  letK (kind_1l0.set (k_7l0).toNat t_14) fun (l16_16 : (List Int)) =>
  Option.bind (idx l16_16 k_7l0) fun (yt_19 : Int) =>
  Option.bind (idx sizes k_7l0) fun (yt_23 : Int) =>
  letK (decide (yt_19 < yt_23)) fun (t_25 : Bool) =>
  iteK t_25
  (some (true, l16_16))
  (Option.bind (idx l16_16 k_7l0) fun (yt_29 : Int) =>
  letK (l16_16.set (k_7l0).toNat 0) fun (l30_30 : (List Int)) =>
  letK (IntKind.i64.wrap (k_7l0 - 1)) fun (t_32 : Int) =>
  appK nx0 (l30_30, t_32)))
  (appK bk0 (kind_1l0, k_7l0))

def e0  (s : (List Int) × Int) : Option (Bool × (List Int)) :=
  unp2 s fun kind_1l0 k_7l0 =>
  some (false, kind_1l0)

def P (fuel : Nat) (sizes : (List Int)) (kind : (List Int)) (trait : Int) : Option (Bool × (List Int)) :=
  letK (IntKind.i64.wrap (trait + 1)) fun (t_3 : Int) =>
  guardK ((0 : Int) ≤ t_3 ∧ (t_3 : Int) ≤ (kind.length : Int)) <|
  letK (List.take (Int.toNat t_3) kind ++ List.replicate (kind.length - Int.toNat t_3) 0) fun (cl_5 : (List Int)) =>
  loopK (l0 sizes) fuel (cl_5, trait) (e0 )

set_option maxRecDepth 100000 in
set_option maxHeartbeats 2000000 in
theorem C (fuel : Nat) (sizes : (List Int)) (kind : (List Int)) (trait : Int) (A0 : Option Addr) (c0 : Nat) (A1 : Option Addr) (c1 : Nat)  (b0 : Nat) (w : World) (M0 : Hid (Cells w 1 A0 sizes.length (Go.Proofs.Ytdbgmcgjklmkkaa.HelpInt.iv sizes))) (N0 : Hid (sizes.length ≤ 9223372036854775807)) (M1 : Hid (w.ownsRow b0 3 1 (.slice A1 kind.length c1) kind.length (Go.Proofs.Ytdbgmcgjklmkkaa.HelpInt.iv kind))) (N1 : Hid (kind.length ≤ 9223372036854775807))  (X0 : Hid (0 < sizes.length → Apart A0 A1)) {r : Bool} {l_ : (List Int)} (H : Hid (P fuel sizes kind trait = some (r, l_))) :
    Calls Try.prog 165 #[.slice A0 sizes.length c0, .slice A1 kind.length c1, .int .i64 trait] w (fun e w' => e = .returned (.bool r) ∧ w'.ownsRow b0 3 1 (.slice A1 kind.length c1) kind.length (Go.Proofs.Ytdbgmcgjklmkkaa.HelpInt.iv l_) ∧ l_.length = kind.length ∧ w.grownBy w' (Value.slice A1 kind.length c1).ownBlock) := by
  have HB := Lib.hid (Aid.grown_refl w (Value.slice A1 kind.length c1).ownBlock)
  unfold P at H
  have N0o := N0.out
  have N1o := N1.out
  obtain ⟨i0_3, hi_3, hz0_3, hz1_3, hz2_3⟩ := Aid.info_parts (P := Try.prog) (T := 3) (z := .int .i64 0) (s := 1) (b := 8) (by kernel_rfl)
  go_enter Try.func165, Try.ntmps165
  replace H := let_hid H
  obtain ⟨t_3, ht_3, H⟩ := H
  replace H := guard_hid H
  obtain ⟨hl_cl_5, H⟩ := H
  replace H := let_hid H
  obtain ⟨cl_5, hcl_5, H⟩ := H
  have dcl_5 : ((Go.Proofs.Ytdbgmcgjklmkkaa.HelpInt.iv kind)).take (Int.toNat t_3) ++ List.replicate (kind.length - Int.toNat t_3) (.int .i64 0) = (Go.Proofs.Ytdbgmcgjklmkkaa.HelpInt.iv cl_5) := by rw [← hcl_5]; simp [Go.Proofs.Ytdbgmcgjklmkkaa.HelpInt.iv, List.map_take]
  have ncl_5 : Hid (cl_5.length = kind.length) := Lib.hid (by rw [← hcl_5, List.length_append, List.length_take, List.length_replicate]; omega)
  obtain ⟨Acl_5, mcl_5, ccl_5, wcl_5, rcl_5, ucl_5, ocl_5, gcl_5⟩ := Go.Proofs.Ytdbgmcgjklmkkaa.GoK.own_clear (P := Try.prog) (t := 22) (e := 3) (k := .i64) (by kernel_rfl) (by kernel_rfl) hi_3 hz1_3 hz0_3 (by rfl) (by rfl) M1.out hl_cl_5 dcl_5
  have Pcl_5 := Lib.hid ocl_5
  have Gcl_5 := Lib.hid gcl_5
  clear ocl_5 gcl_5 dcl_5 hl_cl_5
  have hhcl_5 := Lib.hid hcl_5
  clear hcl_5
  have HBwcl_5 := Lib.hid (Aid.grown_tr HB.out Gcl_5.out)
  clear M1 Gcl_5
  go_wp2_with fail
  clear rcl_5 ucl_5
  go_wp2_with fail
  go_loopg [7] (fuel) (fun m_ v7_ wr => ∃ (kind_1l0 : (List Int)) (k_7l0 : Int), v7_ = .int .i64 k_7l0 ∧ Hid (loopK (l0 sizes) m_ (kind_1l0, k_7l0) (e0 ) = some (r, l_)) ∧ Hid (w.grownBy wr (Value.slice A1 kind.length c1).ownBlock) ∧ Hid (wr.ownsRow b0 3 1 (.slice A1 kind.length c1) kind.length (Go.Proofs.Ytdbgmcgjklmkkaa.HelpInt.iv kind_1l0)) ∧ Hid (kind_1l0.length = kind.length))
  case atStart => exact ⟨_, _, rfl, H, HBwcl_5, Pcl_5, Lib.hid (ncl_5.out)⟩
  case round =>
    obtain ⟨kind_1l0, k_7l0, rfl, H, HBwr0, Okind_1l0, hnkind_1l0⟩ := hrel
    rename World => wr0
    cases gk with
    | zero => exact (loop_zero H).elim
    | succ m0 =>
      replace H := loop_succ H
      unfold l0 at H
      replace H := unp2_hid H
      replace H := let_hid H
      obtain ⟨t_9, ht_9, H⟩ := H
      cases t_9 with
      | false =>
        replace H := ite_f H
        replace H := app_hid H
        unfold e0 at H
        replace H := unp2_hid H
        cases ret_hid H
        go_wp2_with fail
        go_ret
        exact ⟨rfl, Okind_1l0.out, hnkind_1l0.out, HBwr0.out⟩
      | true =>
        replace H := ite_t H
        replace H := idx_hid H
        obtain ⟨nt_12, yt_12, et_12, lt_12, gt_12, H⟩ := H
        subst et_12
        have nc_211 : 0 ≤ nt_12 := by have := of_decide_eq_true ht_9; omega
        have hqt_12 := hnkind_1l0.out
        obtain ⟨qt_12, Qt_12⟩ := own_some Okind_1l0.out (by omega)
        subst Qt_12
        obtain ⟨ab_t_12, ao_t_12, zt_12, At_12, z_t_12, ct_12_0⟩ := Go.Proofs.Ytdbgmcgjklmkkaa.HelpInt.Ints.at_ (own_cells Okind_1l0.out) (k := nt_12) (by omega)
        obtain rfl := Option.some.inj (gt_12.out.symm.trans z_t_12)
        simp only [Option.some.injEq, Addr.mk.injEq] at At_12
        obtain ⟨rfl, rfl, _⟩ := At_12
        clear z_t_12
        simp only [Nat.zero_add] at ct_12_0
        have b0t_12 : (0 : Int) ≤ (nt_12 : Int) := by omega
        have b1t_12 : (nt_12 : Int) < ((kind.length : Nat) : Int) := by omega
        have b2t_12 : ((nt_12 : Int)).toNat = nt_12 := by omega
        clear hqt_12
        replace H := let_hid H
        obtain ⟨t_14, ht_14, H⟩ := H
        replace H := idx_hid H
        obtain ⟨nt_15, yt_15, et_15, lt_15, gt_15, H⟩ := H
        obtain rfl : nt_12 = nt_15 := by omega
        clear et_15
        obtain rfl := Option.some.inj (gt_12.out.symm.trans gt_15.out)
        clear gt_15 lt_15
        replace H := let_hid H
        obtain ⟨l16_16, hl16_16, H⟩ := H
        try simp only [Int.toNat_natCast] at hl16_16
        obtain ⟨wl16_16, hwl16_16⟩ : ∃ x, (wr0).setCell ⟨qt_12, nt_12, none⟩ (.int .i64 t_14) = x := ⟨_, rfl⟩
        have z0l16_16 := Okind_1l0.out.frozenAt (nt_12)
        have Sl16_16 := Lib.hid (own_stores [(nt_12, .int .i64 t_14)] Okind_1l0.out)
        have nl16_16 : Hid (l16_16.length = kind.length) := Lib.hid (by rw [← hl16_16, List.length_set]; exact hnkind_1l0.out)
        have Pl16_16 : Hid (wl16_16.ownsRow b0 3 1 (.slice (some ⟨qt_12, 0, none⟩) kind.length c1) kind.length (Go.Proofs.Ytdbgmcgjklmkkaa.HelpInt.iv l16_16)) := Lib.hid (by have e_ : ([(nt_12, .int .i64 t_14)] : List (Nat × Value)).foldl (fun xs p => xs.set p.1 p.2) (Go.Proofs.Ytdbgmcgjklmkkaa.HelpInt.iv kind_1l0) = (Go.Proofs.Ytdbgmcgjklmkkaa.HelpInt.iv l16_16) := (by rw [← hl16_16]; first | done | simp [Go.Proofs.Ytdbgmcgjklmkkaa.HelpInt.iv, List.map_set]); rw [← hwl16_16, ← e_]; exact Sl16_16.out.1)
        have Gl16_16 : Hid (wr0.grownBy wl16_16 (Value.slice (some ⟨qt_12, 0, none⟩) kind.length c1).ownBlock) := Lib.hid (by rw [← hwl16_16]; exact Sl16_16.out.2)
        have HBwl16_16 := Lib.hid (Aid.grown_tr HBwr0.out Gl16_16.out)
        have hhl16_16 := Lib.hid hl16_16
        clear hl16_16 Sl16_16
        clear Okind_1l0 Gl16_16
        go_wp2_with fail
        clear z0l16_16 ct_12_0
        replace H := idx_hid H
        obtain ⟨nt_19, yt_19, et_19, lt_19, gt_19, H⟩ := H
        obtain rfl : nt_12 = nt_19 := by omega
        clear et_19
        have hqt_19 := nl16_16.out
        obtain ⟨ab_t_19, ao_t_19, zt_19, At_19, z_t_19, ct_19_0⟩ := Go.Proofs.Ytdbgmcgjklmkkaa.HelpInt.Ints.at_ (own_cells Pl16_16.out) (k := nt_12) (by omega)
        obtain rfl := Option.some.inj (gt_19.out.symm.trans z_t_19)
        simp only [Option.some.injEq, Addr.mk.injEq] at At_19
        obtain ⟨rfl, rfl, _⟩ := At_19
        clear z_t_19
        simp only [Nat.zero_add] at ct_19_0
        have b0t_19 : (0 : Int) ≤ (nt_12 : Int) := by omega
        have b1t_19 : (nt_12 : Int) < ((kind.length : Nat) : Int) := by omega
        have b2t_19 : ((nt_12 : Int)).toNat = nt_12 := by omega
        clear hqt_19
        have Hct_19_0 := Lib.hid ct_19_0
        replace ct_19_0 := cell_regrown ct_19_0
        replace H := idx_hid H
        obtain ⟨nt_23, yt_23, et_23, lt_23, gt_23, H⟩ := H
        obtain rfl : nt_12 = nt_23 := by omega
        clear et_23
        obtain ⟨ab_t_23, ao_t_23, zt_23, At_23, z_t_23, ct_23_0⟩ := Go.Proofs.Ytdbgmcgjklmkkaa.HelpInt.Ints.at_ M0.out lt_23
        obtain rfl := Option.some.inj (gt_23.out.symm.trans z_t_23)
        subst At_23
        have ltt_23 := cell_lt ct_23_0
        replace ct_23_0 := cell_other ct_23_0 HBwl16_16.out (Go.Proofs.Ytdbgmcgjklmkkaa.GoK.apart_xio X0.out (by omega))
        clear z_t_23
        have b0t_23 : (0 : Int) ≤ (nt_12 : Int) := by omega
        have b1t_23 : (nt_12 : Int) < ((sizes.length : Nat) : Int) := by omega
        have b2t_23 : ((nt_12 : Int)).toNat = nt_12 := by omega
        have Hct_23_0 := Lib.hid ct_23_0
        replace ct_23_0 := cell_regrown ct_23_0
        replace H := let_hid H
        obtain ⟨t_25, ht_25, H⟩ := H
        refine wp_region_quiet_below (by kernel_rfl) (by kernel_rfl) ?_
        repeat (go_big_quiet_step (fail))
        refine wpQuiet_nil ?_
        intro Y6 hY6
        replace hY6 := below_class hY6
        replace ct_19_0 := Hct_19_0.out
        clear Hct_19_0
        replace ct_23_0 := Hct_23_0.out
        clear Hct_23_0
        have HBY6 := Lib.hid (grown_below HBwl16_16.out hY6)
        replace ct_19_0 := cell_below hY6 ct_19_0
        replace ct_23_0 := cell_below hY6 ct_23_0
        replace Pl16_16 := Lib.hid (own_below Pl16_16.out hY6)
        clear hY6
        cases t_25 with
        | false =>
          replace H := ite_f H
          replace H := idx_hid H
          obtain ⟨nt_29, yt_29, et_29, lt_29, gt_29, H⟩ := H
          obtain rfl : nt_12 = nt_29 := by omega
          clear et_29
          obtain rfl := Option.some.inj (gt_19.out.symm.trans gt_29.out)
          clear gt_29 lt_29
          replace H := let_hid H
          obtain ⟨l30_30, hl30_30, H⟩ := H
          try simp only [Int.toNat_natCast] at hl30_30
          obtain ⟨wl30_30, hwl30_30⟩ : ∃ x, (Y6).setCell ⟨qt_12, nt_12, none⟩ (.int .i64 0) = x := ⟨_, rfl⟩
          have z0l30_30 := Pl16_16.out.frozenAt (nt_12)
          have Sl30_30 := Lib.hid (own_stores [(nt_12, .int .i64 0)] Pl16_16.out)
          have nl30_30 : Hid (l30_30.length = kind.length) := Lib.hid (by rw [← hl30_30, List.length_set]; exact nl16_16.out)
          have Pl30_30 : Hid (wl30_30.ownsRow b0 3 1 (.slice (some ⟨qt_12, 0, none⟩) kind.length c1) kind.length (Go.Proofs.Ytdbgmcgjklmkkaa.HelpInt.iv l30_30)) := Lib.hid (by have e_ : ([(nt_12, .int .i64 0)] : List (Nat × Value)).foldl (fun xs p => xs.set p.1 p.2) (Go.Proofs.Ytdbgmcgjklmkkaa.HelpInt.iv l16_16) = (Go.Proofs.Ytdbgmcgjklmkkaa.HelpInt.iv l30_30) := (by rw [← hl30_30]; first | done | simp [Go.Proofs.Ytdbgmcgjklmkkaa.HelpInt.iv, List.map_set]); rw [← hwl30_30, ← e_]; exact Sl30_30.out.1)
          have Gl30_30 : Hid (Y6.grownBy wl30_30 (Value.slice (some ⟨qt_12, 0, none⟩) kind.length c1).ownBlock) := Lib.hid (by rw [← hwl30_30]; exact Sl30_30.out.2)
          have HBwl30_30 := Lib.hid (Aid.grown_tr HBY6.out Gl30_30.out)
          have hhl30_30 := Lib.hid hl30_30
          clear hl30_30 Sl30_30
          have ct_23_0__212 := cell_other ct_23_0 Gl30_30.out (Go.Proofs.Ytdbgmcgjklmkkaa.GoK.apart_xio X0.out (by have := lt_23; omega))
          clear Pl16_16 Gl30_30
          replace H := let_hid H
          obtain ⟨t_32, ht_32, H⟩ := H
          replace H := app_hid H
          go_wp2_with fail
          clear z0l30_30 ct_19_0 ct_23_0
          go_roundg m0
          case measure => omega
          case rel => exact ⟨_, _, rfl, H, HBwl30_30, Pl30_30, Lib.hid (nl30_30.out)⟩
        | true =>
          replace H := ite_t H
          cases ret_hid H
          go_wp2_with fail
          go_ret
          exact ⟨rfl, Pl16_16.out, nl16_16.out, HBY6.out⟩
end Go.Proofs.Ytdbgmcgjklmkkaa.GiAdvance

/- loop.example/g01062/impl.firstFrom as a plain function, and the contract of the program's: where the plain one has an answer, the program has it. Conditions: slices read as lists. -/
namespace Go.Proofs.Ytdbgmcgjklmkkaa.GiFirstFrom
set_option linter.unusedVariables false
set_option linter.unusedSimpArgs false
open Go.RowKit
open Go.Proofs.Ytdbgmcgjklmkkaa.Rowed Go.Proofs.Ytdbgmcgjklmkkaa.Turn Go.Proofs.Ytdbgmcgjklmkkaa.Aid Go.Proofs.Ytdbgmcgjklmkkaa.GoP Go.Proofs.Ytdbgmcgjklmkkaa.GoM

def l1 (t_sizes : (List Int)) (t_bans : (List Go.Proofs.Ytdbgmcgjklmkkaa.PBan.Ban)) (fuel : Nat) (nx0 : ((List Int)) → Option ((List Int) × Bool)) (kind_1l0 : (List Int)) (k1 : Nat) (s : Unit) (nx1 bk1 : Unit → Option ((List Int) × Bool)) : Option ((List Int) × Bool) :=
  
  Option.bind (idx t_bans (k1 : Int)) fun (yt_8 : Go.Proofs.Ytdbgmcgjklmkkaa.PBan.Ban) =>
  unBan yt_8 fun (t_8_a : Int) (t_8_x : Int) (t_8_b : Int) (t_8_y : Int) =>
  Option.bind (Go.Proofs.Ytdbgmcgjklmkkaa.GiForbids.P (Go.Proofs.Ytdbgmcgjklmkkaa.PBan.Ban.mk t_8_a t_8_x t_8_b t_8_y) kind_1l0) fun (t_14 : Bool) =>
  letK (!t_14) fun (t_15 : Bool) =>
  iteK t_15
  (appK nx1 ())
  (bind2 (Go.Proofs.Ytdbgmcgjklmkkaa.GiAdvance.P fuel t_sizes kind_1l0 t_8_b) fun (t_21 : Bool) (lt_21 : (List Int)) =>
  letK (!t_21) fun (t_22 : Bool) =>
  iteK t_22
  (some (([] : List Int), false))
  (appK nx0 (lt_21)))

def e1 (kind_1l0 : (List Int)) (s : Unit) : Option ((List Int) × Bool) :=
  
  some (kind_1l0, true)

def l0 (t_sizes : (List Int)) (t_bans : (List Go.Proofs.Ytdbgmcgjklmkkaa.PBan.Ban)) (fuel : Nat) (s : (List Int)) (nx0 bk0 : (List Int) → Option ((List Int) × Bool)) : Option ((List Int) × Bool) :=
  letK s fun kind_1l0 =>
  cntK (l1 t_sizes t_bans fuel nx0 kind_1l0) (t_bans.length) 0 () (e1 kind_1l0)

def e0  (s : (List Int)) : Option ((List Int) × Bool) :=
  letK s fun kind_1l0 =>
  some ([], false)

def P (fuel : Nat) (t_sizes : (List Int)) (t_bans : (List Go.Proofs.Ytdbgmcgjklmkkaa.PBan.Ban)) (kind : (List Int)) : Option ((List Int) × Bool) :=
  loopK (l0 t_sizes t_bans fuel) fuel (kind) (e0 )

set_option maxRecDepth 100000 in
set_option maxHeartbeats 2000000 in
theorem C (fuel : Nat) (t_sizes : (List Int)) (t_bans : (List Go.Proofs.Ytdbgmcgjklmkkaa.PBan.Ban)) (kind : (List Int)) (A0_0 : Option Addr) (c0_0 : Nat) (A0_1 : Option Addr) (c0_1 : Nat) (A1 : Option Addr) (c1 : Nat)  (b0 : Nat) (w : World) (M0_0 : Hid (Cells w 1 A0_0 t_sizes.length (Go.Proofs.Ytdbgmcgjklmkkaa.HelpInt.iv t_sizes))) (N0_0 : Hid (t_sizes.length ≤ 9223372036854775807)) (M0_1 : Hid (Cells w 4 A0_1 t_bans.length (Go.Proofs.Ytdbgmcgjklmkkaa.PBan.flat t_bans))) (N0_1 : Hid (t_bans.length ≤ 9223372036854775807)) (M1 : Hid (w.ownsRow b0 3 1 (.slice A1 kind.length c1) kind.length (Go.Proofs.Ytdbgmcgjklmkkaa.HelpInt.iv kind))) (N1 : Hid (kind.length ≤ 9223372036854775807))  (LB : Hid (b0 ≤ w.heap.size)) (X0_0 : Hid (0 < t_sizes.length → Apart A0_0 A1)) (X0_1 : Hid (0 < t_bans.length → Apart A0_1 A1)) {r0 : (List Int)} {r1 : Bool} (H : Hid (P fuel t_sizes t_bans kind = some (r0, r1))) :
    Calls Try.prog 164 #[.agg #[.slice A0_0 t_sizes.length c0_0, .slice A0_1 t_bans.length c0_1], .slice A1 kind.length c1] w (fun e w' => ∃ A_r0 c_r0, e = .returned (.tuple #[.slice A_r0 r0.length c_r0, .bool r1]) ∧ w'.ownsRow b0 3 1 (.slice A_r0 r0.length c_r0) r0.length (Go.Proofs.Ytdbgmcgjklmkkaa.HelpInt.iv r0) ∧ w.grownBy w' (Value.slice A1 kind.length c1).ownBlock ∧ Go.Proofs.Ytdbgmcgjklmkkaa.GoK.From w A1 A_r0) := by
  have HB := Lib.hid (Aid.grown_refl w (Value.slice A1 kind.length c1).ownBlock)
  unfold P at H
  have N0_0o := N0_0.out
  have N0_1o := N0_1.out
  have N1o := N1.out
  go_enter Try.func164, Try.ntmps164
  obtain ⟨w_t_0, hw_t_0⟩ : ∃ x, w.alloc (.cells #[.slice A0_0 t_sizes.length c0_0, .slice A0_1 t_bans.length c0_1] 31) = x := ⟨_, rfl⟩
  have bw_t_0 : Below w.heap.size w w_t_0 := by rw [← hw_t_0]; exact (Below.refl _ _).alloc (Nat.le_refl _) _
  have Dt_0_io1 := Lib.hid (apart_fresh M1.out)
  have HBw_t_0 := Lib.hid (grown_below HB.out bw_t_0)
  replace M1 := Lib.hid (own_below M1.out bw_t_0)
  clear bw_t_0
  have kt_0_0 : w_t_0.cell? ⟨w.heap.size, 0, none⟩ = some (.slice A0_0 t_sizes.length c0_0) := by rw [← hw_t_0]; exact box_new _ _ _ 0 _ rfl
  have kt_0_1 : w_t_0.cell? ⟨w.heap.size, 1, none⟩ = some (.slice A0_1 t_bans.length c0_1) := by rw [← hw_t_0]; exact box_new _ _ _ 1 _ rfl
  go_wp2_with fail
  first | refine wp_scope_straight (wp_seq (wp_label ?_)) | refine wp_seq (wp_label ?_)
  try simp only [Exit.then]
  go_wp2_with fail
  go_wp2_with fail
  go_loopg [] (fuel) (fun m_  wr => ∃ (kind_1l0 : (List Int)), Hid (loopK (l0 t_sizes t_bans fuel) m_ (kind_1l0) (e0 ) = some (r0, r1)) ∧ Hid (w.grownBy wr (Value.slice A1 kind.length c1).ownBlock) ∧ wr.cell? ⟨w.heap.size, 0, none⟩ = some (.slice A0_0 t_sizes.length c0_0) ∧ wr.cell? ⟨w.heap.size, 1, none⟩ = some (.slice A0_1 t_bans.length c0_1) ∧ Hid (wr.ownsRow b0 3 1 (.slice A1 kind.length c1) kind.length (Go.Proofs.Ytdbgmcgjklmkkaa.HelpInt.iv kind_1l0)) ∧ Hid (kind_1l0.length = kind.length) ∧ Hid (Apart A1 (some ⟨w.heap.size, 0, none⟩)))
  case atStart => exact ⟨_, H, HBw_t_0, kt_0_0, kt_0_1, M1, Lib.hid (rfl), Lib.hid (Apart.symm Dt_0_io1.out)⟩
  case round =>
    obtain ⟨kind_1l0, H, HBwr0, kt_0_0, kt_0_1, Okind_1l0, hnkind_1l0, Dkind_1l0_t_0⟩ := hrel
    rename World => wr0
    cases gk with
    | zero => exact (loop_zero H).elim
    | succ m0 =>
      replace H := loop_succ H
      unfold l0 at H
      replace H := let_hid H
      obtain ⟨_, rfl, H⟩ := H
      go_wp2_with fail
      go_loopg [11] (t_bans.length) (fun m_ v11_ wr => ∃ (k1 : Nat) , k1 + m_ = t_bans.length ∧ v11_ = .int .i64 (k1 : Int) ∧ Hid (cntK (l1 t_sizes t_bans fuel (fun s' => loopK (l0 t_sizes t_bans fuel) m0 s' (e0 )) kind_1l0) m_ k1 () (e1 kind_1l0) = some (r0, r1)) ∧ Hid (w.grownBy wr (Value.slice A1 kind.length c1).ownBlock) ∧ wr.cell? ⟨w.heap.size, 0, none⟩ = some (.slice A0_0 t_sizes.length c0_0) ∧ wr.cell? ⟨w.heap.size, 1, none⟩ = some (.slice A0_1 t_bans.length c0_1) ∧ Hid (wr.ownsRow b0 3 1 (.slice A1 kind.length c1) kind.length (Go.Proofs.Ytdbgmcgjklmkkaa.HelpInt.iv kind_1l0)))
      case atStart => exact ⟨0, by omega, rfl, H, HBwr0, kt_0_0, kt_0_1, Okind_1l0⟩
      case round =>
        obtain ⟨k1, hkm1, rfl, H, HBwr1, kt_0_0, kt_0_1, Okind_1l0⟩ := hrel
        rename World => wr1
        cases gk with
        | zero =>
          obtain rfl : k1 = t_bans.length := by omega
          have hc1 : decide (((t_bans.length : Nat) : Int) < ((t_bans.length : Nat) : Int)) = false := by simp
          replace H := cnt_zero H
          unfold e1 at H
          cases ret_hid H
          go_wp2_with fail
          try simp only [Exit.noGoto]
          go_wp2_with fail
          go_ret2
          have hr_0 := hnkind_1l0.out
          replace Okind_1l0 := Lib.hid (own_len hr_0 Okind_1l0.out)
          exact ⟨A1, c1, (by first | (rw [hr_0]; done) | (rw [hr_0]; rfl)), Okind_1l0.out, HBwr1.out, Go.Proofs.Ytdbgmcgjklmkkaa.GoK.from_self⟩
        | succ m1 =>
          have hlt1 : k1 < t_bans.length := by omega
          have hc1 : decide ((k1 : Int) < ((t_bans.length : Nat) : Int)) = true := by simp; omega
          replace H := cnt_succ H
          unfold l1 at H
          replace H := idx_hid H
          obtain ⟨nt_8, yt_8, et_8, lt_8, gt_8, H⟩ := H
          obtain rfl : k1 = nt_8 := by omega
          clear et_8
          obtain ⟨t_8_a, t_8_x, t_8_b, t_8_y⟩ := yt_8
          replace H := unBan_hid H
          obtain ⟨ab_t_8, ao_t_8, zt_8, At_8, z_t_8, ct_8_0, ct_8_1, ct_8_2, ct_8_3⟩ := Go.Proofs.Ytdbgmcgjklmkkaa.OBan.at_ M0_1.out lt_8
          obtain rfl := Option.some.inj (gt_8.out.symm.trans z_t_8)
          subst At_8
          have ltt_8 := cell_lt ct_8_0
          replace ct_8_0 := cell_other ct_8_0 HBwr1.out (Go.Proofs.Ytdbgmcgjklmkkaa.GoK.apart_xio X0_1.out (by omega))
          replace ct_8_1 := cell_other ct_8_1 HBwr1.out (Go.Proofs.Ytdbgmcgjklmkkaa.GoK.apart_xio X0_1.out (by omega))
          replace ct_8_2 := cell_other ct_8_2 HBwr1.out (Go.Proofs.Ytdbgmcgjklmkkaa.GoK.apart_xio X0_1.out (by omega))
          replace ct_8_3 := cell_other ct_8_3 HBwr1.out (Go.Proofs.Ytdbgmcgjklmkkaa.GoK.apart_xio X0_1.out (by omega))
          clear z_t_8
          have b0t_8 : (0 : Int) ≤ (k1 : Int) := by omega
          have b1t_8 : (k1 : Int) < ((t_bans.length : Nat) : Int) := by omega
          have b2t_8 : ((k1 : Int)).toNat = k1 := by omega
          obtain ⟨w_b_10, hw_b_10⟩ : ∃ x, wr1.alloc (.cells #[.int .i64 t_8_a, .int .i64 t_8_x, .int .i64 t_8_b, .int .i64 t_8_y] 96) = x := ⟨_, rfl⟩
          have bw_b_10 : Below wr1.heap.size wr1 w_b_10 := by rw [← hw_b_10]; exact (Below.refl _ _).alloc (Nat.le_refl _) _
          have Db_10_kind_1l0 := Lib.hid (apart_fresh Okind_1l0.out)
          have HBw_b_10 := Lib.hid (grown_below HBwr1.out bw_b_10)
          have kt_0_0__213 := cell_below bw_b_10 kt_0_0
          have kt_0_1__214 := cell_below bw_b_10 kt_0_1
          have ct_8_0__215 := cell_below bw_b_10 ct_8_0
          have ct_8_1__216 := cell_below bw_b_10 ct_8_1
          have ct_8_2__217 := cell_below bw_b_10 ct_8_2
          have ct_8_3__218 := cell_below bw_b_10 ct_8_3
          replace Okind_1l0 := Lib.hid (own_below Okind_1l0.out bw_b_10)
          clear bw_b_10
          have kb_10_0 : w_b_10.cell? ⟨wr1.heap.size, 0, none⟩ = some (.int .i64 t_8_a) := by rw [← hw_b_10]; exact box_new _ _ _ 0 _ rfl
          have kb_10_1 : w_b_10.cell? ⟨wr1.heap.size, 1, none⟩ = some (.int .i64 t_8_x) := by rw [← hw_b_10]; exact box_new _ _ _ 1 _ rfl
          have kb_10_2 : w_b_10.cell? ⟨wr1.heap.size, 2, none⟩ = some (.int .i64 t_8_b) := by rw [← hw_b_10]; exact box_new _ _ _ 2 _ rfl
          have kb_10_3 : w_b_10.cell? ⟨wr1.heap.size, 3, none⟩ = some (.int .i64 t_8_y) := by rw [← hw_b_10]; exact box_new _ _ _ 3 _ rfl
          replace H := bind_hid H
          obtain ⟨t_14, qt_14, H⟩ := H
          go_wp2_with fail
          clear kt_0_0 kt_0_1 ct_8_0 ct_8_1 ct_8_2 ct_8_3
          have hc0_ := hnkind_1l0.out
          have Oct_14_1 := Lib.hid (own_len hc0_ Okind_1l0.out)
          have con_ := Go.Proofs.Ytdbgmcgjklmkkaa.GiForbids.C ((Go.Proofs.Ytdbgmcgjklmkkaa.PBan.Ban.mk t_8_a t_8_x t_8_b t_8_y)) (kind_1l0) A1 c1 _   (Lib.hid (own_cells Oct_14_1.out)) (Lib.hid (own_max Oct_14_1.out)) qt_14
          rw [hc0_] at con_
          clear hc0_ Oct_14_1
          go_at_call 197
          refine con_.mono ?_
          rintro e_t_14 wt_14 ⟨rfl, bt_14⟩
          have HBwt_14 := Lib.hid (grown_below HBw_b_10.out bt_14)
          replace kt_0_0__213 := cell_below bt_14 kt_0_0__213
          replace kt_0_1__214 := cell_below bt_14 kt_0_1__214
          replace ct_8_0__215 := cell_below bt_14 ct_8_0__215
          replace ct_8_1__216 := cell_below bt_14 ct_8_1__216
          replace ct_8_2__217 := cell_below bt_14 ct_8_2__217
          replace ct_8_3__218 := cell_below bt_14 ct_8_3__218
          replace kb_10_0 := cell_below bt_14 kb_10_0
          replace kb_10_1 := cell_below bt_14 kb_10_1
          replace kb_10_2 := cell_below bt_14 kb_10_2
          replace kb_10_3 := cell_below bt_14 kb_10_3
          replace Okind_1l0 := Lib.hid (own_below Okind_1l0.out bt_14)
          clear bt_14
          cases t_14 with
          | false =>
            replace H := let_hid H
            obtain ⟨t_15, ht_15, H⟩ := H
            obtain rfl : t_15 = true := ht_15.symm
            replace H := ite_t H
            replace H := app_hid H
            go_wp2_with fail
            go_roundg m1
            case measure => omega
            case rel => exact ⟨k1 + 1, by omega, by go_num, H, HBwt_14, kt_0_0__213, kt_0_1__214, Okind_1l0⟩
          | true =>
            replace H := let_hid H
            obtain ⟨t_15, ht_15, H⟩ := H
            obtain rfl : t_15 = false := ht_15.symm
            replace H := ite_f H
            replace H := bind2_hid H
            obtain ⟨t_21, lt_21, qt_21, H⟩ := H
            go_wp2_with fail
            have hc0_ := hnkind_1l0.out
            have Oct_21_1 := Lib.hid (own_len hc0_ Okind_1l0.out)
            have con_ := Go.Proofs.Ytdbgmcgjklmkkaa.GiAdvance.C fuel (t_sizes) (kind_1l0) (t_8_b) A0_0 c0_0 A1 c1 b0 _   (Lib.hid (Go.Proofs.Ytdbgmcgjklmkkaa.GoK.cells_wr M0_0.out HBwt_14.out X0_0.out)) N0_0 Oct_21_1 (Lib.hid (own_max Oct_21_1.out))  X0_0 qt_21
            rw [hc0_] at con_
            clear hc0_ Oct_21_1
            go_at_call 165
            refine con_.mono ?_
            rintro e_t_21 wt_21 ⟨rfl, ot_21, nt_21, gt_21⟩
            have Pt_21 := Lib.hid ot_21
            have Gt_21 := Lib.hid gt_21
            replace nt_21 := Lib.hid nt_21
            clear ot_21 gt_21
            have HBwt_21 := Lib.hid (Aid.grown_tr HBwt_14.out Gt_21.out)
            replace kt_0_0__213 := cell_other kt_0_0__213 Gt_21.out Dkind_1l0_t_0.out
            replace kt_0_1__214 := cell_other kt_0_1__214 Gt_21.out Dkind_1l0_t_0.out
            replace ct_8_0__215 := cell_other ct_8_0__215 Gt_21.out (Go.Proofs.Ytdbgmcgjklmkkaa.GoK.apart_xio X0_1.out (by have := lt_8; omega))
            replace ct_8_1__216 := cell_other ct_8_1__216 Gt_21.out (Go.Proofs.Ytdbgmcgjklmkkaa.GoK.apart_xio X0_1.out (by have := lt_8; omega))
            replace ct_8_2__217 := cell_other ct_8_2__217 Gt_21.out (Go.Proofs.Ytdbgmcgjklmkkaa.GoK.apart_xio X0_1.out (by have := lt_8; omega))
            replace ct_8_3__218 := cell_other ct_8_3__218 Gt_21.out (Go.Proofs.Ytdbgmcgjklmkkaa.GoK.apart_xio X0_1.out (by have := lt_8; omega))
            replace kb_10_0 := cell_other kb_10_0 Gt_21.out (Apart.symm Db_10_kind_1l0.out)
            replace kb_10_1 := cell_other kb_10_1 Gt_21.out (Apart.symm Db_10_kind_1l0.out)
            replace kb_10_2 := cell_other kb_10_2 Gt_21.out (Apart.symm Db_10_kind_1l0.out)
            replace kb_10_3 := cell_other kb_10_3 Gt_21.out (Apart.symm Db_10_kind_1l0.out)
            clear Okind_1l0 Gt_21
            cases t_21 with
            | false =>
              replace H := let_hid H
              obtain ⟨t_22, ht_22, H⟩ := H
              obtain rfl : t_22 = true := ht_22.symm
              replace H := ite_t H
              obtain ⟨w_t_23, hw_t_23⟩ : ∃ x, wt_21.alloc (.cells #[] 3) = x := ⟨_, rfl⟩
              have bw_t_23 : Below wt_21.heap.size wt_21 w_t_23 := by rw [← hw_t_23]; exact (Below.refl _ _).alloc (Nat.le_refl _) _
              have lot_23 : Hid (w.heap.size ≤ wt_21.heap.size) := Lib.hid HBwt_21.out.size
              have Ot_23 : Hid (w_t_23.ownsRow b0 3 1 (.slice (some ⟨wt_21.heap.size, 0, none⟩) 0 0) 0 []) := Lib.hid (by rw [← hw_t_23]; exact Go.Proofs.Ytdbgmcgjklmkkaa.GoK.own_emptyB (Nat.le_trans LB.out lot_23.out))
              have Dt_23_kind_1l0 := Lib.hid (apart_fresh Pt_21.out)
              have Dt_23_t_0 := Lib.hid (apart_box kt_0_0__213)
              have Dt_23_b_10 := Lib.hid (apart_box kb_10_0)
              have HBw_t_23 := Lib.hid (grown_below HBwt_21.out bw_t_23)
              have kt_0_0__219 := cell_below bw_t_23 kt_0_0__213
              have kt_0_1__220 := cell_below bw_t_23 kt_0_1__214
              have ct_8_0__221 := cell_below bw_t_23 ct_8_0__215
              have ct_8_1__222 := cell_below bw_t_23 ct_8_1__216
              have ct_8_2__223 := cell_below bw_t_23 ct_8_2__217
              have ct_8_3__224 := cell_below bw_t_23 ct_8_3__218
              have kb_10_0__225 := cell_below bw_t_23 kb_10_0
              have kb_10_1__226 := cell_below bw_t_23 kb_10_1
              have kb_10_2__227 := cell_below bw_t_23 kb_10_2
              have kb_10_3__228 := cell_below bw_t_23 kb_10_3
              replace Pt_21 := Lib.hid (own_below Pt_21.out bw_t_23)
              clear bw_t_23
              cases ret_hid H
              go_wp2_with fail
              try simp only [Exit.noGoto]
              go_wp2_with fail
              go_ret2
              exact ⟨(some ⟨wt_21.heap.size, 0, none⟩), 0, rfl, Ot_23.out, HBw_t_23.out, (Go.Proofs.Ytdbgmcgjklmkkaa.GoK.from_new lot_23.out)⟩
            | true =>
              replace H := let_hid H
              obtain ⟨t_22, ht_22, H⟩ := H
              obtain rfl : t_22 = false := ht_22.symm
              replace H := ite_f H
              replace H := app_hid H
              go_wp2_with fail
              go_roundg m0
              case measure => omega
              case rel => exact ⟨_, H, HBwt_21, kt_0_0__213, kt_0_1__214, Pt_21, Lib.hid (nt_21.out), Lib.hid Dkind_1l0_t_0.out⟩
end Go.Proofs.Ytdbgmcgjklmkkaa.GiFirstFrom

/- loop.example/g01062/impl.firstOf as a plain function, and the contract of the program's: where the plain one has an answer, the program has it. Conditions: slices read as lists. -/
namespace Go.Proofs.Ytdbgmcgjklmkkaa.GiFirstOf
set_option linter.unusedVariables false
set_option linter.unusedSimpArgs false
open Go.RowKit
open Go.Proofs.Ytdbgmcgjklmkkaa.Rowed Go.Proofs.Ytdbgmcgjklmkkaa.Turn Go.Proofs.Ytdbgmcgjklmkkaa.Aid Go.Proofs.Ytdbgmcgjklmkkaa.GoP Go.Proofs.Ytdbgmcgjklmkkaa.GoM

def P (fuel : Nat) (t_sizes : (List Int)) (t_bans : (List Go.Proofs.Ytdbgmcgjklmkkaa.PBan.Ban)) : Option ((List Int) × Bool) :=
  guardK (0 ≤ (t_sizes.length : Int) ∧ (t_sizes.length : Int) ≤ 1099511627776) <|
  letK (List.replicate t_sizes.length 0) fun (t_7 : (List Int)) =>
  bind2 (Go.Proofs.Ytdbgmcgjklmkkaa.GiFirstFrom.P fuel t_sizes t_bans t_7) fun (t_8a : (List Int)) (t_8b : Bool) =>
  some (t_8a, t_8b)

set_option maxRecDepth 100000 in
set_option maxHeartbeats 2000000 in
theorem C (fuel : Nat) (t_sizes : (List Int)) (t_bans : (List Go.Proofs.Ytdbgmcgjklmkkaa.PBan.Ban)) (A0_0 : Option Addr) (c0_0 : Nat) (A0_1 : Option Addr) (c0_1 : Nat)  (w : World) (M0_0 : Hid (Cells w 1 A0_0 t_sizes.length (Go.Proofs.Ytdbgmcgjklmkkaa.HelpInt.iv t_sizes))) (N0_0 : Hid (t_sizes.length ≤ 9223372036854775807)) (M0_1 : Hid (Cells w 4 A0_1 t_bans.length (Go.Proofs.Ytdbgmcgjklmkkaa.PBan.flat t_bans))) (N0_1 : Hid (t_bans.length ≤ 9223372036854775807))  {r0 : (List Int)} {r1 : Bool} (H : Hid (P fuel t_sizes t_bans = some (r0, r1))) :
    Calls Try.prog 129 #[.agg #[.slice A0_0 t_sizes.length c0_0, .slice A0_1 t_bans.length c0_1]] w (fun e w' => ∃ A_r0 c_r0, e = .returned (.tuple #[.slice A_r0 r0.length c_r0, .bool r1]) ∧ w'.ownsRow w.heap.size 3 1 (.slice A_r0 r0.length c_r0) r0.length (Go.Proofs.Ytdbgmcgjklmkkaa.HelpInt.iv r0) ∧ Below w.heap.size w w') := by
  have HB := Lib.hid (Below.refl w.heap.size w)
  unfold P at H
  have N0_0o := N0_0.out
  have N0_1o := N0_1.out
  obtain ⟨i0_3, hi_3, hz0_3, hz1_3, hz2_3⟩ := Aid.info_parts (P := Try.prog) (T := 3) (z := .int .i64 0) (s := 1) (b := 8) (by kernel_rfl)
  go_enter Try.func129, Try.ntmps129
  obtain ⟨w_t_0, hw_t_0⟩ : ∃ x, w.alloc (.cells #[.slice A0_0 t_sizes.length c0_0, .slice A0_1 t_bans.length c0_1] 31) = x := ⟨_, rfl⟩
  have bw_t_0 : Below w.heap.size w w_t_0 := by rw [← hw_t_0]; exact (Below.refl _ _).alloc (Nat.le_refl _) _
  have HBw_t_0 := Lib.hid (Below.step HB.out bw_t_0)
  clear bw_t_0
  have kt_0_0 : w_t_0.cell? ⟨w.heap.size, 0, none⟩ = some (.slice A0_0 t_sizes.length c0_0) := by rw [← hw_t_0]; exact box_new _ _ _ 0 _ rfl
  have kt_0_1 : w_t_0.cell? ⟨w.heap.size, 1, none⟩ = some (.slice A0_1 t_bans.length c0_1) := by rw [← hw_t_0]; exact box_new _ _ _ 1 _ rfl
  go_wp2_with fail
  have bd1 : Below w_t_0.heap.size w_t_0 w_t_0.drew := (Below.refl _ _).drew
  have HBw_t_0.drew := Lib.hid (Below.step HBw_t_0.out bd1)
  replace kt_0_0 := cell_below bd1 kt_0_0
  replace kt_0_1 := cell_below bd1 kt_0_1
  clear bd1
  replace H := guard_hid H
  obtain ⟨hnt_7, H⟩ := H
  replace H := let_hid H
  obtain ⟨t_7, ht_7, H⟩ := H
  have hst_7 := HBw_t_0.drew.out.size
  have hlt_7 : t_7.length = t_sizes.length := by rw [← ht_7]; simp
  have hht_7 := Lib.hid ht_7
  clear ht_7
  have Dt_7_t_0 := Lib.hid (apart_box kt_0_0)
  obtain ⟨wt_7, rt_7, ot_7, gt_7⟩ := run_make_full (P := Try.prog) (w := w_t_0.drew) w.heap.size 22 3 i0_3 (.int .i64 0) 1 Try.underlying22 hi_3 hz0_3 hz1_3 .i64 .i64 t_sizes.length (by rw [hz2_3]; omega) (by unfold maxLen; omega) hst_7
  have Qt_7 := Lib.hid ot_7
  have Gt_7 := Lib.hid gt_7
  clear ot_7 gt_7
  have Et_7 : (Go.Proofs.Ytdbgmcgjklmkkaa.HelpInt.iv t_7) = (madeCells (.int .i64 0 : Value).cells (t_sizes.length * 1)).toList := by
    rw [made_flat (fun x => [.int .i64 x]) 0 _ 1 _ rfl rfl (by decide), ← hht_7.out]
    exact map_flat _ _
  have Pt_7 : Hid (wt_7.ownsRow w.heap.size 3 1 (.slice (some ⟨w_t_0.drew.heap.size, 0, none⟩) t_sizes.length t_sizes.length) t_sizes.length (Go.Proofs.Ytdbgmcgjklmkkaa.HelpInt.iv t_7)) := Lib.hid (by rw [Et_7]; exact Qt_7.out)
  clear Et_7
  replace hlt_7 := Lib.hid hlt_7
  clear Qt_7 hst_7
  have bt_7 : Below w_t_0.drew.heap.size w_t_0.drew wt_7 := (Below.refl _ _).grown Gt_7.out (Nat.le_refl _) (by simp)
  clear Gt_7
  have HBwt_7 := Lib.hid (Below.step HBw_t_0.drew.out bt_7)
  have kt_0_0__229 := cell_below bt_7 kt_0_0
  have kt_0_1__230 := cell_below bt_7 kt_0_1
  clear bt_7
  replace H := bind2_hid H
  obtain ⟨t_8a, t_8b, qt_8, H⟩ := H
  go_region_held3 (fun w' => w'.cell? ⟨w.heap.size, 0, none⟩ = some (.slice A0_0 t_sizes.length c0_0) ∧ w'.cell? ⟨w.heap.size, 1, none⟩ = some (.slice A0_1 t_bans.length c0_1)) (first | exact ⟨kt_0_0, kt_0_1⟩ | exact ⟨kt_0_0__229, kt_0_1__230⟩)
      (first
        | (have hc0_ := hlt_7.out
           have Oct_8_1 := Lib.hid (own_len hc0_ Pt_7.out)
           have con_ := Go.Proofs.Ytdbgmcgjklmkkaa.GiFirstFrom.C fuel (t_sizes) (t_bans) (t_7) A0_0 c0_0 A0_1 c0_1 (some ⟨w_t_0.drew.heap.size, 0, none⟩) t_sizes.length w.heap.size _   (Lib.hid (Cells.below M0_0.out HBwt_7.out)) N0_0 (Lib.hid (Cells.below M0_1.out HBwt_7.out)) N0_1 Oct_8_1 (Lib.hid (own_max Oct_8_1.out)) (Lib.hid HBwt_7.out.size) (Lib.hid (Go.Proofs.Ytdbgmcgjklmkkaa.GoK.far_base (by decide) M0_0.out Oct_8_1.out)) (Lib.hid (Go.Proofs.Ytdbgmcgjklmkkaa.GoK.far_base (by decide) M0_1.out Oct_8_1.out)) qt_8
           rw [hc0_] at con_
           clear hc0_ Oct_8_1
           go_at_call 164
           refine con_.mono ?_
           rintro e_t_8 wt_8 ⟨At_8a, ct_8a, rfl, ot_8, gt_8, yt_8⟩
           have Pt_8 := Lib.hid ot_8
           have Gt_8 := Lib.hid gt_8
           replace yt_8 := Lib.hid yt_8
           clear ot_8 gt_8
           have HBwt_8 := Lib.hid (HBwt_7.out.grown Gt_8.out HBwt_7.out.size (fun q hq => (Pt_7.out.lt q hq).1))
           have Dt_8a_t_0 : Hid (Apart At_8a _) := Lib.hid (Go.Proofs.Ytdbgmcgjklmkkaa.GoK.apart_from Dt_7_t_0.out (fun a_ ha_ => by cases ha_; exact cell_lt kt_0_0__229) yt_8.out)
           replace kt_0_0__229 := cell_other kt_0_0__229 Gt_8.out Dt_7_t_0.out
           replace kt_0_1__230 := cell_other kt_0_1__230 Gt_8.out Dt_7_t_0.out
           clear rt_7 kt_0_0 kt_0_1
           clear Pt_7 Gt_8 yt_8
           clear qt_8))
  cases ret_hid H
  go_wp2_with fail
  go_ret2
  exact ⟨At_8a, ct_8a, rfl, Pt_8.out, HBwt_8.out⟩
end Go.Proofs.Ytdbgmcgjklmkkaa.GiFirstOf

/- slices.Clone[[]int,int] as a plain function, and the contract of the program's: where the plain one has an answer, the program has it. Conditions: slices read as lists. -/
namespace Go.Proofs.Ytdbgmcgjklmkkaa.GxSlicesCloneIntInt
set_option linter.unusedVariables false
set_option linter.unusedSimpArgs false
open Go.RowKit
open Go.Proofs.Ytdbgmcgjklmkkaa.Rowed Go.Proofs.Ytdbgmcgjklmkkaa.Turn Go.Proofs.Ytdbgmcgjklmkkaa.Aid Go.Proofs.Ytdbgmcgjklmkkaa.GoP Go.Proofs.Ytdbgmcgjklmkkaa.GoM

def P (s_0 : (List Int)) : Option ((List Int)) :=
  Go.Proofs.Ytdbgmcgjklmkkaa.GoK.nilK s_0 fun (nt_2 : Bool) =>
  iteK nt_2
  (some [])
  (guardK (([] : List Int).length + s_0.length ≤ 1099511627776) <|
  letK (([] : List Int) ++ s_0) fun (t_6 : (List Int)) =>
  some t_6)

set_option maxRecDepth 100000 in
set_option maxHeartbeats 2000000 in
theorem C (s_0 : (List Int)) (A0 : Option Addr) (c0 : Nat)  (w : World) (M0 : Hid (Cells w 1 A0 s_0.length (Go.Proofs.Ytdbgmcgjklmkkaa.HelpInt.iv s_0))) (N0 : Hid (s_0.length ≤ 9223372036854775807)) (Q0 : Hid (Room A0 s_0.length c0))  {r : (List Int)} (H : Hid (P s_0 = some r)) :
    Calls Try.prog 122 #[.slice A0 s_0.length c0] w (fun e w' => ∃ A_r c_r, e = .returned (.slice A_r r.length c_r) ∧ w'.ownsRow w.heap.size 3 1 (.slice A_r r.length c_r) r.length (Go.Proofs.Ytdbgmcgjklmkkaa.HelpInt.iv r) ∧ Below w.heap.size w w') := by
  have HB := Lib.hid (Below.refl w.heap.size w)
  unfold P at H
  have N0o := N0.out
  obtain ⟨i0_3, hi_3, hz0_3, hz1_3, hz2_3⟩ := Aid.info_parts (P := Try.prog) (T := 3) (z := .int .i64 0) (s := 1) (b := 8) (by kernel_rfl)
  go_enter Try.func122, Try.ntmps122
  have mt_2 := Go.Proofs.Ytdbgmcgjklmkkaa.GoK.nil_cells (l := s_0) (Cells.below M0.out HB.out) (fun h_ => by cases s_0 with | nil => rfl | cons y_ ys_ => simp [Go.Proofs.Ytdbgmcgjklmkkaa.HelpInt.iv] at h_)
  obtain ⟨nt_2, ht_2⟩ : ∃ z_, (A0 : Option Addr).isNone = z_ := ⟨_, rfl⟩
  have rt_2 : ∀ W_, (binOp .eql 22 (.slice A0 s_0.length c0) (.slice none 0 0)).run Try.prog W_ = .ok (.bool nt_2) W_ := by intro W_; rw [← ht_2]; exact Lib.run_eql_slice_nil W_ _ _ _ _ _ _ _ Try.underlying22
  replace H := Go.Proofs.Ytdbgmcgjklmkkaa.GoK.nilK_hid H nt_2 (by rw [← ht_2]; exact mt_2) (by intro h_; subst h_; rfl)
  clear mt_2 ht_2
  cases nt_2 with
  | false =>
    replace H := ite_f H
    obtain ⟨w_t_4, hw_t_4⟩ : ∃ x, w.alloc (.cells #[] 3) = x := ⟨_, rfl⟩
    have bw_t_4 : Below w.heap.size w w_t_4 := by rw [← hw_t_4]; exact (Below.refl _ _).alloc (Nat.le_refl _) _
    have Ot_4 : Hid (w_t_4.ownsRow w.heap.size 3 1 (.slice (some ⟨w.heap.size, 0, none⟩) 0 0) 0 []) := Lib.hid (by rw [← hw_t_4]; exact own_empty HB.out.size)
    have HBw_t_4 := Lib.hid (Below.step HB.out bw_t_4)
    clear bw_t_4
    replace H := guard_hid H
    obtain ⟨hlt_6, H⟩ := H
    replace H := let_hid H
    obtain ⟨t_6, ht_6, H⟩ := H
    have hht_6 := Lib.hid ht_6
    clear ht_6
    have hst_6 := HBw_t_4.out.size
    have Ct_6 := Lib.hid ((Cells.below M0.out HBw_t_4.out))
    go_wp2_with (at_builtin; refine append_spread rfl _ _ 22 rfl w.heap.size 3 i0_3 (.int .i64 0) 1 8 Try.underlying22 hi_3 hz0_3 hz1_3 hz2_3 rfl (by decide) (some ⟨w.heap.size, 0, none⟩) 0 0 _ rfl Ot_4.out A0 s_0.length c0 (Go.Proofs.Ytdbgmcgjklmkkaa.HelpInt.iv s_0) rfl Q0.out Ct_6.out (fun u hu => by unfold Go.Proofs.Ytdbgmcgjklmkkaa.HelpInt.iv at hu; obtain ⟨y_, _, rfl⟩ := List.mem_map.1 hu; rfl) (by unfold maxLen; simp only [List.length_nil] at hlt_6; omega) (by simp only [List.length_nil] at hlt_6; omega) hst_6 ?_; intro vt_6 wt_6 ot_6 gt_6 yt_6; obtain ⟨At_6, ct_6, rfl, pt_6⟩ := own_pushS (f := Go.Proofs.Ytdbgmcgjklmkkaa.HelpInt.iv) hht_6.out (by simp [Go.Proofs.Ytdbgmcgjklmkkaa.HelpInt.iv]) rfl ot_6; have Pt_6 := Lib.hid pt_6; have Yt_6 := Lib.hid yt_6; have Gt_6 := Lib.hid gt_6; clear ot_6 gt_6 pt_6 yt_6; refine stop_in ?_)
    refine stop_out ?_
    clear Ct_6
    have HBwt_6 := Lib.hid (HBw_t_4.out.grown Gt_6.out hst_6 (fun q hq => (Ot_4.out.lt q hq).1))
    clear hst_6
    clear Ot_4 Yt_6 Gt_6
    obtain rfl := ret_hid H
    go_wp2_with fail
    go_ret
    exact ⟨At_6, ct_6, rfl, Pt_6.out, HBwt_6.out⟩
  | true =>
    replace H := ite_t H
    obtain rfl := ret_hid H
    go_wp2_with fail
    go_ret
    exact ⟨none, 0, rfl, own_nil, HB.out⟩
end Go.Proofs.Ytdbgmcgjklmkkaa.GxSlicesCloneIntInt

/- loop.example/g01062/impl.firstBehind as a plain function, and the contract of the program's: where the plain one has an answer, the program has it. Conditions: slices read as lists. -/
namespace Go.Proofs.Ytdbgmcgjklmkkaa.GiFirstBehind
set_option linter.unusedVariables false
set_option linter.unusedSimpArgs false
open Go.RowKit
open Go.Proofs.Ytdbgmcgjklmkkaa.Rowed Go.Proofs.Ytdbgmcgjklmkkaa.Turn Go.Proofs.Ytdbgmcgjklmkkaa.Aid Go.Proofs.Ytdbgmcgjklmkkaa.GoP Go.Proofs.Ytdbgmcgjklmkkaa.GoM

def P (fuel : Nat) (t_sizes : (List Int)) (t_bans : (List Go.Proofs.Ytdbgmcgjklmkkaa.PBan.Ban)) (kind : (List Int)) : Option ((List Int) × Bool) :=
  Option.bind (Go.Proofs.Ytdbgmcgjklmkkaa.GxSlicesCloneIntInt.P kind) fun (t_4 : (List Int)) =>
  letK (IntKind.i64.wrap ((t_4.length : Int) - 1)) fun (t_11 : Int) =>
  bind2 (Go.Proofs.Ytdbgmcgjklmkkaa.GiAdvance.P fuel t_sizes t_4 t_11) fun (t_12 : Bool) (lt_12 : (List Int)) =>
  letK (!t_12) fun (t_13 : Bool) =>
  iteK t_13
  (some (([] : List Int), false))
  (bind2 (Go.Proofs.Ytdbgmcgjklmkkaa.GiFirstFrom.P fuel t_sizes t_bans lt_12) fun (t_19a : (List Int)) (t_19b : Bool) =>
  some (t_19a, t_19b))

set_option maxRecDepth 100000 in
set_option maxHeartbeats 2000000 in
theorem C (fuel : Nat) (t_sizes : (List Int)) (t_bans : (List Go.Proofs.Ytdbgmcgjklmkkaa.PBan.Ban)) (kind : (List Int)) (A0_0 : Option Addr) (c0_0 : Nat) (A0_1 : Option Addr) (c0_1 : Nat) (A1 : Option Addr) (c1 : Nat)  (w : World) (M0_0 : Hid (Cells w 1 A0_0 t_sizes.length (Go.Proofs.Ytdbgmcgjklmkkaa.HelpInt.iv t_sizes))) (N0_0 : Hid (t_sizes.length ≤ 9223372036854775807)) (Q0_0 : Hid (Room A0_0 t_sizes.length c0_0)) (M0_1 : Hid (Cells w 4 A0_1 t_bans.length (Go.Proofs.Ytdbgmcgjklmkkaa.PBan.flat t_bans))) (N0_1 : Hid (t_bans.length ≤ 9223372036854775807)) (Q0_1 : Hid (Room A0_1 t_bans.length c0_1)) (M1 : Hid (Cells w 1 A1 kind.length (Go.Proofs.Ytdbgmcgjklmkkaa.HelpInt.iv kind))) (N1 : Hid (kind.length ≤ 9223372036854775807)) (Q1 : Hid (Room A1 kind.length c1))  {r0 : (List Int)} {r1 : Bool} (H : Hid (P fuel t_sizes t_bans kind = some (r0, r1))) :
    Calls Try.prog 130 #[.agg #[.slice A0_0 t_sizes.length c0_0, .slice A0_1 t_bans.length c0_1], .slice A1 kind.length c1] w (fun e w' => ∃ A_r0 c_r0, e = .returned (.tuple #[.slice A_r0 r0.length c_r0, .bool r1]) ∧ w'.ownsRow w.heap.size 3 1 (.slice A_r0 r0.length c_r0) r0.length (Go.Proofs.Ytdbgmcgjklmkkaa.HelpInt.iv r0) ∧ Below w.heap.size w w') := by
  have HB := Lib.hid (Below.refl w.heap.size w)
  unfold P at H
  have N0_0o := N0_0.out
  have N0_1o := N0_1.out
  have N1o := N1.out
  go_enter Try.func130, Try.ntmps130
  obtain ⟨w_t_0, hw_t_0⟩ : ∃ x, w.alloc (.cells #[.slice A0_0 t_sizes.length c0_0, .slice A0_1 t_bans.length c0_1] 31) = x := ⟨_, rfl⟩
  have bw_t_0 : Below w.heap.size w w_t_0 := by rw [← hw_t_0]; exact (Below.refl _ _).alloc (Nat.le_refl _) _
  have HBw_t_0 := Lib.hid (Below.step HB.out bw_t_0)
  clear bw_t_0
  have kt_0_0 : w_t_0.cell? ⟨w.heap.size, 0, none⟩ = some (.slice A0_0 t_sizes.length c0_0) := by rw [← hw_t_0]; exact box_new _ _ _ 0 _ rfl
  have kt_0_1 : w_t_0.cell? ⟨w.heap.size, 1, none⟩ = some (.slice A0_1 t_bans.length c0_1) := by rw [← hw_t_0]; exact box_new _ _ _ 1 _ rfl
  replace H := bind_hid H
  obtain ⟨t_4, qt_4, H⟩ := H
  go_wp2_with fail
  go_at_call 122
  refine (Go.Proofs.Ytdbgmcgjklmkkaa.GxSlicesCloneIntInt.C (kind) A1 c1 _   (Lib.hid (Cells.below M1.out HBw_t_0.out)) N1 Q1 qt_4).mono ?_
  rintro e_t_4 wt_4 ⟨At_4, ct_4, rfl, ot_4, bt_4⟩
  have Dt_4_t_0 := Lib.hid (apart_callbox ot_4 kt_0_0)
  have Ot_4 := Lib.hid (own_lower ot_4 HBw_t_0.out.size)
  clear ot_4
  have HBwt_4 := Lib.hid (Below.step HBw_t_0.out bt_4)
  replace kt_0_0 := cell_below bt_4 kt_0_0
  replace kt_0_1 := cell_below bt_4 kt_0_1
  clear bt_4
  replace H := let_hid H
  obtain ⟨t_11, ht_11, H⟩ := H
  try have hv_t_11 : (t_4.length : Int) - 1 = t_11 := by rw [← ht_11]; exact (IntWalk.i64_in _ (by omega)).symm
  try have hv2_t_11 : IntKind.i64.wrap t_11 = t_11 := by rw [← hv_t_11]; exact IntWalk.i64_in _ (by omega)
  replace H := bind2_hid H
  obtain ⟨t_12, lt_12, qt_12, H⟩ := H
  go_wp2_with fail
  go_at_call 165
  refine (Go.Proofs.Ytdbgmcgjklmkkaa.GiAdvance.C fuel (t_sizes) (t_4) (t_11) A0_0 c0_0 At_4 ct_4 w.heap.size _   (Lib.hid (Cells.below M0_0.out HBwt_4.out)) N0_0 Ot_4 (Lib.hid (own_max Ot_4.out))  (Lib.hid (Go.Proofs.Ytdbgmcgjklmkkaa.GoK.far_base (by decide) M0_0.out Ot_4.out)) qt_12).mono ?_
  rintro e_t_12 wt_12 ⟨rfl, ot_12, nt_12, gt_12⟩
  have Pt_12 := Lib.hid ot_12
  have Gt_12 := Lib.hid gt_12
  replace nt_12 := Lib.hid nt_12
  clear ot_12 gt_12
  have HBwt_12 := Lib.hid (HBwt_4.out.grown Gt_12.out HBwt_4.out.size (fun q hq => (Ot_4.out.lt q hq).1))
  replace kt_0_0 := cell_other kt_0_0 Gt_12.out Dt_4_t_0.out
  replace kt_0_1 := cell_other kt_0_1 Gt_12.out Dt_4_t_0.out
  clear Ot_4 Gt_12
  cases t_12 with
  | false =>
    replace H := let_hid H
    obtain ⟨t_13, ht_13, H⟩ := H
    obtain rfl : t_13 = true := ht_13.symm
    replace H := ite_t H
    obtain ⟨w_t_14, hw_t_14⟩ : ∃ x, wt_12.alloc (.cells #[] 3) = x := ⟨_, rfl⟩
    have bw_t_14 : Below wt_12.heap.size wt_12 w_t_14 := by rw [← hw_t_14]; exact (Below.refl _ _).alloc (Nat.le_refl _) _
    have Ot_14 : Hid (w_t_14.ownsRow w.heap.size 3 1 (.slice (some ⟨wt_12.heap.size, 0, none⟩) 0 0) 0 []) := Lib.hid (by rw [← hw_t_14]; exact own_empty HBwt_12.out.size)
    have Dt_14_t_4 := Lib.hid (apart_fresh Pt_12.out)
    have Dt_14_t_0 := Lib.hid (apart_box kt_0_0)
    have HBw_t_14 := Lib.hid (Below.step HBwt_12.out bw_t_14)
    have kt_0_0__231 := cell_below bw_t_14 kt_0_0
    have kt_0_1__232 := cell_below bw_t_14 kt_0_1
    replace Pt_12 := Lib.hid (own_below Pt_12.out bw_t_14)
    clear bw_t_14
    cases ret_hid H
    go_wp2_with fail
    go_ret2
    exact ⟨(some ⟨wt_12.heap.size, 0, none⟩), 0, rfl, Ot_14.out, HBw_t_14.out⟩
  | true =>
    replace H := let_hid H
    obtain ⟨t_13, ht_13, H⟩ := H
    obtain rfl : t_13 = false := ht_13.symm
    replace H := ite_f H
    go_wp2_with fail
    have hc_ := nt_12.out
    have hv_ : (Value.slice At_4 t_4.length ct_4 : Value) = Value.slice At_4 lt_12.length ct_4 := by rw [hc_]
    try rw [hv_]
    replace Pt_12 := Lib.hid (own_len hc_ Pt_12.out)
    clear hc_ hv_
    replace H := bind2_hid H
    obtain ⟨t_19a, t_19b, qt_19, H⟩ := H
    go_wp2_with fail
    go_at_call 164
    refine (Go.Proofs.Ytdbgmcgjklmkkaa.GiFirstFrom.C fuel (t_sizes) (t_bans) (lt_12) A0_0 c0_0 A0_1 c0_1 At_4 ct_4 w.heap.size _   (Lib.hid (Cells.below M0_0.out HBwt_12.out)) N0_0 (Lib.hid (Cells.below M0_1.out HBwt_12.out)) N0_1 Pt_12 (Lib.hid (own_max Pt_12.out)) (Lib.hid HBwt_12.out.size) (Lib.hid (Go.Proofs.Ytdbgmcgjklmkkaa.GoK.far_base (by decide) M0_0.out Pt_12.out)) (Lib.hid (Go.Proofs.Ytdbgmcgjklmkkaa.GoK.far_base (by decide) M0_1.out Pt_12.out)) qt_19).mono ?_
    rintro e_t_19 wt_19 ⟨At_19a, ct_19a, rfl, ot_19, gt_19, yt_19⟩
    have Pt_19 := Lib.hid ot_19
    have Gt_19 := Lib.hid gt_19
    replace yt_19 := Lib.hid yt_19
    clear ot_19 gt_19
    have HBwt_19 := Lib.hid (HBwt_12.out.grown Gt_19.out HBwt_12.out.size (fun q hq => (Pt_12.out.lt q hq).1))
    have Dt_19a_t_0 : Hid (Apart At_19a _) := Lib.hid (Go.Proofs.Ytdbgmcgjklmkkaa.GoK.apart_from Dt_4_t_0.out (fun a_ ha_ => by cases ha_; exact cell_lt kt_0_0) yt_19.out)
    replace kt_0_0 := cell_other kt_0_0 Gt_19.out Dt_4_t_0.out
    replace kt_0_1 := cell_other kt_0_1 Gt_19.out Dt_4_t_0.out
    clear Pt_12 Gt_19 yt_19
    cases ret_hid H
    go_wp2_with fail
    go_ret2
    exact ⟨At_19a, ct_19a, rfl, Pt_19.out, HBwt_19.out⟩
end Go.Proofs.Ytdbgmcgjklmkkaa.GiFirstBehind

/- loop.example/g01062/impl.compatibleKinds as a plain function, and the contract of the program's: where the plain one has an answer, the program has it. Conditions: slices read as lists. -/
namespace Go.Proofs.Ytdbgmcgjklmkkaa.GiCompatibleKinds
set_option linter.unusedVariables false
set_option linter.unusedSimpArgs false
open Go.RowKit
open Go.Proofs.Ytdbgmcgjklmkkaa.Rowed Go.Proofs.Ytdbgmcgjklmkkaa.Turn Go.Proofs.Ytdbgmcgjklmkkaa.Aid Go.Proofs.Ytdbgmcgjklmkkaa.GoP Go.Proofs.Ytdbgmcgjklmkkaa.GoM

def l0 (t_sizes : (List Int)) (t_bans : (List Go.Proofs.Ytdbgmcgjklmkkaa.PBan.Ban)) (fuel : Nat) (s : (List (List Int)) × (List Int) × Bool) (nx0 bk0 : (List (List Int)) × (List Int) × Bool → Option ((List (List Int)))) : Option ((List (List Int))) :=
  unp3 s fun kinds_3l0 kind_4l0 ok_5l0 =>
  iteK ok_5l0
  (guardK (kinds_3l0.length ≤ 1099511627776) <|
  letK (kinds_3l0 ++ [kind_4l0]) fun (t_15 : (List (List Int))) =>
  bind2 (Go.Proofs.Ytdbgmcgjklmkkaa.GiFirstBehind.P fuel t_sizes t_bans kind_4l0) fun (t_19a : (List Int)) (t_19b : Bool) =>
  appK nx0 (t_15, t_19a, t_19b))
  (appK bk0 (kinds_3l0, kind_4l0, ok_5l0))

def e0  (s : (List (List Int)) × (List Int) × Bool) : Option ((List (List Int))) :=
  unp3 s fun kinds_3l0 kind_4l0 ok_5l0 =>
  some kinds_3l0

def P (fuel : Nat) (t_sizes : (List Int)) (t_bans : (List Go.Proofs.Ytdbgmcgjklmkkaa.PBan.Ban)) : Option ((List (List Int))) :=
  bind2 (Go.Proofs.Ytdbgmcgjklmkkaa.GiFirstOf.P fuel t_sizes t_bans) fun (t_5a : (List Int)) (t_5b : Bool) =>
  loopK (l0 t_sizes t_bans fuel) fuel (([] : List (List Int)), t_5a, t_5b) (e0 )

set_option maxRecDepth 100000 in
set_option maxHeartbeats 2000000 in
theorem C (fuel : Nat) (t_sizes : (List Int)) (t_bans : (List Go.Proofs.Ytdbgmcgjklmkkaa.PBan.Ban)) (A0_0 : Option Addr) (c0_0 : Nat) (A0_1 : Option Addr) (c0_1 : Nat)  (w : World) (M0_0 : Hid (Cells w 1 A0_0 t_sizes.length (Go.Proofs.Ytdbgmcgjklmkkaa.HelpInt.iv t_sizes))) (N0_0 : Hid (t_sizes.length ≤ 9223372036854775807)) (Q0_0 : Hid (Room A0_0 t_sizes.length c0_0)) (M0_1 : Hid (Cells w 4 A0_1 t_bans.length (Go.Proofs.Ytdbgmcgjklmkkaa.PBan.flat t_bans))) (N0_1 : Hid (t_bans.length ≤ 9223372036854775807)) (Q0_1 : Hid (Room A0_1 t_bans.length c0_1))  {r : (List (List Int))} (H : Hid (P fuel t_sizes t_bans = some r)) :
    Calls Try.prog 73 #[.agg #[.slice A0_0 t_sizes.length c0_0, .slice A0_1 t_bans.length c0_1]] w (fun e w' => ∃ A_r c_r, e = .returned (.slice A_r r.length c_r) ∧ (∃ B_, Go.Proofs.Ytdbgmcgjklmkkaa.GoN.OwnNest w' (w.heap.size) 22 3 1 Go.Proofs.Ytdbgmcgjklmkkaa.HelpInt.iv A_r c_r r B_) ∧ Below w.heap.size w w') := by
  have HB := Lib.hid (Below.refl w.heap.size w)
  unfold P at H
  have N0_0o := N0_0.out
  have N0_1o := N0_1.out
  obtain ⟨i0_22, hi_22, hz0_22, hz1_22, hz2_22⟩ := Aid.info_parts (P := Try.prog) (T := 22) (z := .slice none 0 0) (s := 1) (b := 24) (by kernel_rfl)
  go_enter Try.func73, Try.ntmps73
  obtain ⟨w_t_0, hw_t_0⟩ : ∃ x, w.alloc (.cells #[.slice A0_0 t_sizes.length c0_0, .slice A0_1 t_bans.length c0_1] 31) = x := ⟨_, rfl⟩
  have bw_t_0 : Below w.heap.size w w_t_0 := by rw [← hw_t_0]; exact (Below.refl _ _).alloc (Nat.le_refl _) _
  have HBw_t_0 := Lib.hid (Below.step HB.out bw_t_0)
  clear bw_t_0
  have kt_0_0 : w_t_0.cell? ⟨w.heap.size, 0, none⟩ = some (.slice A0_0 t_sizes.length c0_0) := by rw [← hw_t_0]; exact box_new _ _ _ 0 _ rfl
  have kt_0_1 : w_t_0.cell? ⟨w.heap.size, 1, none⟩ = some (.slice A0_1 t_bans.length c0_1) := by rw [← hw_t_0]; exact box_new _ _ _ 1 _ rfl
  obtain ⟨w_t_2, hw_t_2⟩ : ∃ x, w_t_0.alloc (.cells #[] 22) = x := ⟨_, rfl⟩
  have bw_t_2 : Below w_t_0.heap.size w_t_0 w_t_2 := by rw [← hw_t_2]; exact (Below.refl _ _).alloc (Nat.le_refl _) _
  have Ot_2 : Hid (Go.Proofs.Ytdbgmcgjklmkkaa.GoN.OwnNest w_t_2 (w.heap.size) 22 3 1 Go.Proofs.Ytdbgmcgjklmkkaa.HelpInt.iv (some ⟨w_t_0.heap.size, 0, none⟩) 0 ([] : List (List Int)) [some ⟨w_t_0.heap.size, 0, none⟩]) := Lib.hid (by rw [← hw_t_2]; exact Go.Proofs.Ytdbgmcgjklmkkaa.GoN.nest_empty HBw_t_0.out.size)
  have Dt_2_t_0 := Lib.hid (Go.Proofs.Ytdbgmcgjklmkkaa.GoN.nest_one (apart_box kt_0_0))
  have HBw_t_2 := Lib.hid (Below.step HBw_t_0.out bw_t_2)
  have kt_0_0__233 := cell_below bw_t_2 kt_0_0
  have kt_0_1__234 := cell_below bw_t_2 kt_0_1
  clear bw_t_2
  replace H := bind2_hid H
  obtain ⟨t_5a, t_5b, qt_5, H⟩ := H
  go_wp2_with fail
  clear kt_0_0 kt_0_1
  go_at_call 129
  refine (Go.Proofs.Ytdbgmcgjklmkkaa.GiFirstOf.C fuel (t_sizes) (t_bans) A0_0 c0_0 A0_1 c0_1 _   (Lib.hid (Cells.below M0_0.out HBw_t_2.out)) N0_0 (Lib.hid (Cells.below M0_1.out HBw_t_2.out)) N0_1 qt_5).mono ?_
  rintro e_t_5 wt_5 ⟨At_5a, ct_5a, rfl, ot_5a, bt_5⟩
  have Dt_5a_t_2 := Lib.hid (Go.Proofs.Ytdbgmcgjklmkkaa.GoN.nest_call ot_5a Ot_2.out)
  have Dt_5a_t_0 := Lib.hid (apart_callbox ot_5a kt_0_0__233)
  have Ot_5a := Lib.hid (own_lower ot_5a HBw_t_2.out.size)
  clear ot_5a
  have HBwt_5 := Lib.hid (Below.step HBw_t_2.out bt_5)
  replace kt_0_0__233 := cell_below bt_5 kt_0_0__233
  replace kt_0_1__234 := cell_below bt_5 kt_0_1__234
  replace Ot_2 := Lib.hid (Go.Proofs.Ytdbgmcgjklmkkaa.GoN.nest_below Ot_2.out bt_5)
  clear bt_5
  go_wp2_with fail
  go_loopg [3, 4, 5] (fuel) (fun m_ v3_ v4_ v5_ wr => ∃ (kinds_3l0 : (List (List Int))) (kind_4l0 : (List Int)) (ok_5l0 : Bool) (Akinds_3l0 : Option Addr) (ckinds_3l0 : Nat) (Bkinds_3l0 : List (Option Addr)) (Akind_4l0 : Option Addr) (ckind_4l0 : Nat), v3_ = .slice Akinds_3l0 kinds_3l0.length ckinds_3l0 ∧ v4_ = .slice Akind_4l0 kind_4l0.length ckind_4l0 ∧ v5_ = .bool ok_5l0 ∧ Hid (loopK (l0 t_sizes t_bans fuel) m_ (kinds_3l0, kind_4l0, ok_5l0) (e0 ) = some r) ∧ Hid (Below w.heap.size w wr) ∧ wr.cell? ⟨w.heap.size, 0, none⟩ = some (.slice A0_0 t_sizes.length c0_0) ∧ wr.cell? ⟨w.heap.size, 1, none⟩ = some (.slice A0_1 t_bans.length c0_1) ∧ Hid (Go.Proofs.Ytdbgmcgjklmkkaa.GoN.OwnNest wr (w.heap.size) 22 3 1 Go.Proofs.Ytdbgmcgjklmkkaa.HelpInt.iv Akinds_3l0 ckinds_3l0 kinds_3l0 Bkinds_3l0) ∧ Hid (wr.ownsRow w.heap.size 3 1 (.slice Akind_4l0 kind_4l0.length ckind_4l0) kind_4l0.length (Go.Proofs.Ytdbgmcgjklmkkaa.HelpInt.iv kind_4l0)) ∧ Hid (∀ y_ ∈ Bkinds_3l0, Apart Akind_4l0 y_) ∧ Hid (∀ y_ ∈ Bkinds_3l0, Apart (some ⟨w.heap.size, 0, none⟩) y_) ∧ Hid (Apart Akind_4l0 (some ⟨w.heap.size, 0, none⟩)))
  case atStart => exact ⟨_, _, _, _, _, _, _, _, rfl, rfl, rfl, H, HBwt_5, kt_0_0__233, kt_0_1__234, Ot_2, Ot_5a, Lib.hid Dt_5a_t_2.out, Lib.hid Dt_2_t_0.out, Lib.hid Dt_5a_t_0.out⟩
  case round =>
    obtain ⟨kinds_3l0, kind_4l0, ok_5l0, Akinds_3l0, ckinds_3l0, Bkinds_3l0, Akind_4l0, ckind_4l0, rfl, rfl, rfl, H, HBwr0, kt_0_0__233, kt_0_1__234, Okinds_3l0, Okind_4l0, Dkind_4l0_kinds_3l0, Dt_0_kinds_3l0, Dkind_4l0_t_0⟩ := hrel
    rename World => wr0
    cases gk with
    | zero => exact (loop_zero H).elim
    | succ m0 =>
      replace H := loop_succ H
      unfold l0 at H
      replace H := unp3_hid H
      cases ok_5l0 with
      | false =>
        replace H := ite_f H
        replace H := app_hid H
        unfold e0 at H
        replace H := unp3_hid H
        obtain rfl := ret_hid H
        go_wp2_with fail
        go_ret
        exact ⟨Akinds_3l0, ckinds_3l0, rfl, ⟨_, Okinds_3l0.out⟩, HBwr0.out⟩
      | true =>
        replace H := ite_t H
        obtain ⟨w_t_14, hw_t_14⟩ : ∃ x, wr0.alloc (.cells #[.slice Akind_4l0 kind_4l0.length ckind_4l0] 22) = x := ⟨_, rfl⟩
        have bw_t_14 : Below wr0.heap.size wr0 w_t_14 := by rw [← hw_t_14]; exact (Below.refl _ _).alloc (Nat.le_refl _) _
        have HBw_t_14 := Lib.hid (Below.step HBwr0.out bw_t_14)
        have kt_0_0__235 := cell_below bw_t_14 kt_0_0__233
        have kt_0_1__236 := cell_below bw_t_14 kt_0_1__234
        replace Okinds_3l0 := Lib.hid (Go.Proofs.Ytdbgmcgjklmkkaa.GoN.nest_below Okinds_3l0.out bw_t_14)
        replace Okind_4l0 := Lib.hid (own_below Okind_4l0.out bw_t_14)
        clear bw_t_14
        replace H := guard_hid H
        obtain ⟨hlt_15, H⟩ := H
        replace H := let_hid H
        obtain ⟨t_15, ht_15, H⟩ := H
        have hht_15 := Lib.hid ht_15
        clear ht_15
        have hst_15 := HBw_t_14.out.size
        obtain ⟨zt_15, h1t_15, h2t_15, h3t_15, h4t_15, h5t_15⟩ := Okinds_3l0.out
        have h1t_15i := Lib.hid h1t_15
        have h3t_15i := Lib.hid h3t_15
        have h4t_15i := Lib.hid h4t_15
        have h5t_15i := Lib.hid h5t_15
        clear h1t_15 h3t_15 h4t_15 h5t_15
        have h2t_15i := Lib.hid h2t_15
        clear h2t_15
        go_wp2_with (at_builtin; refine wpList_append_own_at _ rfl _ _ 47 rfl w.heap.size 22 i0_22 (.slice none 0 0) 1 24 Try.underlying47 hi_22 hz0_22 hz1_22 hz2_22 rfl (by decide) _ _ _ rfl h2t_15i.out ⟨wr0.heap.size, 0, none⟩ 1 1 [.slice Akind_4l0 kind_4l0.length ckind_4l0] rfl rfl (news_new hw_t_14) (one_cells rfl) (by unfold maxLen; omega) (by omega) hst_15 ?_; intro vt_15 wt_15 ot_15 gt_15 ut_15 yt_15; clear ut_15; obtain ⟨qt_15, ct_15, Bt_15, rfl, pt_15, dt_15, rt_15⟩ := Go.Proofs.Ytdbgmcgjklmkkaa.GoN.nest_app hht_15.out h1t_15i.out h4t_15i.out h3t_15i.out h5t_15i.out Okind_4l0.out Dkind_4l0_kinds_3l0.out gt_15 ot_15 yt_15; have Pt_15 := Lib.hid pt_15; have Ut_15 := Lib.hid dt_15; have Rt_15 := Lib.hid rt_15; have Gt_15 := Lib.hid gt_15; clear ot_15 gt_15 pt_15 yt_15 dt_15 rt_15; refine stop_in ?_)
        refine stop_out ?_
        have HBwt_15 := Lib.hid (HBw_t_14.out.grown Gt_15.out hst_15 (fun q hq => (h2t_15i.out.lt q hq).1))
        clear hst_15
        have Dt_15_t_0 : Hid (∀ y_ ∈ Bt_15, Apart (some ⟨w.heap.size, 0, none⟩) y_) := Lib.hid (Go.Proofs.Ytdbgmcgjklmkkaa.GoN.apart_push Dt_0_kinds_3l0.out (Apart.symm Dkind_4l0_t_0.out) (fun a_ ha_ => by cases ha_; exact cell_lt kt_0_0__235) Ut_15.out)
        replace kt_0_0__235 := cell_other kt_0_0__235 Gt_15.out (Apart.symm (Dt_0_kinds_3l0.out _ (Go.Proofs.Ytdbgmcgjklmkkaa.GoN.nest_head Okinds_3l0.out)))
        replace kt_0_1__236 := cell_other kt_0_1__236 Gt_15.out (Apart.symm (Dt_0_kinds_3l0.out _ (Go.Proofs.Ytdbgmcgjklmkkaa.GoN.nest_head Okinds_3l0.out)))
        replace Okind_4l0 := Lib.hid (own_other Okind_4l0.out Gt_15.out (Apart.symm (Dkind_4l0_kinds_3l0.out _ (Go.Proofs.Ytdbgmcgjklmkkaa.GoN.nest_head Okinds_3l0.out))))
        clear kt_0_0__233 kt_0_1__234
        clear Okinds_3l0 Gt_15 h1t_15i h2t_15i h3t_15i h4t_15i h5t_15i
        clear Okind_4l0
        have mmt_15 := Lib.hid Ut_15.out.2.1
        clear Ut_15
        replace H := bind2_hid H
        obtain ⟨t_19a, t_19b, qt_19, H⟩ := H
        go_wp2_with fail
        go_at_call 130
        refine (Go.Proofs.Ytdbgmcgjklmkkaa.GiFirstBehind.C fuel (t_sizes) (t_bans) (kind_4l0) A0_0 c0_0 A0_1 c0_1 Akind_4l0 ckind_4l0 _   (Lib.hid (Cells.below M0_0.out HBwt_15.out)) N0_0 Q0_0 (Lib.hid (Cells.below M0_1.out HBwt_15.out)) N0_1 Q0_1 (Lib.hid (own_cells Rt_15.out)) (Lib.hid (own_max Rt_15.out)) (Lib.hid (own_room Rt_15.out)) qt_19).mono ?_
        rintro e_t_19 wt_19 ⟨At_19a, ct_19a, rfl, ot_19a, bt_19⟩
        have Dt_19a_kind_4l0 := Lib.hid (apart_call ot_19a Rt_15.out)
        have Dt_19a_t_15 := Lib.hid (Go.Proofs.Ytdbgmcgjklmkkaa.GoN.nest_call ot_19a Pt_15.out)
        have Dt_19a_t_0 := Lib.hid (apart_callbox ot_19a kt_0_0__235)
        have Ot_19a := Lib.hid (own_lower ot_19a HBwt_15.out.size)
        clear ot_19a
        have HBwt_19 := Lib.hid (Below.step HBwt_15.out bt_19)
        replace kt_0_0__235 := cell_below bt_19 kt_0_0__235
        replace kt_0_1__236 := cell_below bt_19 kt_0_1__236
        replace Rt_15 := Lib.hid (own_below Rt_15.out bt_19)
        replace Pt_15 := Lib.hid (Go.Proofs.Ytdbgmcgjklmkkaa.GoN.nest_below Pt_15.out bt_19)
        clear bt_19
        replace H := app_hid H
        go_wp2_with fail
        go_roundg m0
        case measure => omega
        case rel => exact ⟨_, _, _, _, _, _, _, _, rfl, rfl, rfl, H, HBwt_19, kt_0_0__235, kt_0_1__236, Pt_15, Ot_19a, Lib.hid Dt_19a_t_15.out, Lib.hid Dt_15_t_0.out, Lib.hid Dt_19a_t_0.out⟩
end Go.Proofs.Ytdbgmcgjklmkkaa.GiCompatibleKinds

/- slices.Clone[[]loop.example/g01062/impl.Ban,loop.example/g01062/impl.Ban] as a plain function, and the contract of the program's: where the plain one has an answer, the program has it. Conditions: slices read as lists. -/
namespace Go.Proofs.Ytdbgmcgjklmkkaa.GxSlicesCloneLoopExampleG01062ImplBanLoopExampleG01062ImplBan
set_option linter.unusedVariables false
set_option linter.unusedSimpArgs false
open Go.RowKit
open Go.Proofs.Ytdbgmcgjklmkkaa.Rowed Go.Proofs.Ytdbgmcgjklmkkaa.Turn Go.Proofs.Ytdbgmcgjklmkkaa.Aid Go.Proofs.Ytdbgmcgjklmkkaa.GoP Go.Proofs.Ytdbgmcgjklmkkaa.GoM

def P (s_0 : (List Go.Proofs.Ytdbgmcgjklmkkaa.PBan.Ban)) : Option ((List Go.Proofs.Ytdbgmcgjklmkkaa.PBan.Ban)) :=
  Go.Proofs.Ytdbgmcgjklmkkaa.GoK.nilK s_0 fun (nt_2 : Bool) =>
  iteK nt_2
  (some [])
  (guardK (([] : List Go.Proofs.Ytdbgmcgjklmkkaa.PBan.Ban).length + s_0.length ≤ 1099511627776) <|
  letK (([] : List Go.Proofs.Ytdbgmcgjklmkkaa.PBan.Ban) ++ s_0) fun (t_6 : (List Go.Proofs.Ytdbgmcgjklmkkaa.PBan.Ban)) =>
  some t_6)

set_option maxRecDepth 100000 in
set_option maxHeartbeats 2000000 in
theorem C (s_0 : (List Go.Proofs.Ytdbgmcgjklmkkaa.PBan.Ban)) (A0 : Option Addr) (c0 : Nat)  (w : World) (M0 : Hid (Cells w 4 A0 s_0.length (Go.Proofs.Ytdbgmcgjklmkkaa.PBan.flat s_0))) (N0 : Hid (s_0.length ≤ 9223372036854775807)) (Q0 : Hid (Room A0 s_0.length c0))  {r : (List Go.Proofs.Ytdbgmcgjklmkkaa.PBan.Ban)} (H : Hid (P s_0 = some r)) :
    Calls Try.prog 75 #[.slice A0 s_0.length c0] w (fun e w' => ∃ A_r c_r, e = .returned (.slice A_r r.length c_r) ∧ w'.ownsRow w.heap.size 96 4 (.slice A_r r.length c_r) r.length (Go.Proofs.Ytdbgmcgjklmkkaa.PBan.flat r) ∧ Below w.heap.size w w') := by
  have HB := Lib.hid (Below.refl w.heap.size w)
  unfold P at H
  have N0o := N0.out
  obtain ⟨i0_96, hi_96, hz0_96, hz1_96, hz2_96⟩ := Aid.info_parts (P := Try.prog) (T := 96) (z := .agg #[.int .i64 0, .int .i64 0, .int .i64 0, .int .i64 0]) (s := 4) (b := 32) (by kernel_rfl)
  go_enter Try.func75, Try.ntmps75
  have mt_2 := Go.Proofs.Ytdbgmcgjklmkkaa.GoK.nil_cells (l := s_0) (Cells.below M0.out HB.out) (fun h_ => by cases s_0 with | nil => rfl | cons y_ ys_ => simp [Go.Proofs.Ytdbgmcgjklmkkaa.PBan.flat, Go.Proofs.Ytdbgmcgjklmkkaa.PBan.Ban.cells] at h_)
  obtain ⟨nt_2, ht_2⟩ : ∃ z_, (A0 : Option Addr).isNone = z_ := ⟨_, rfl⟩
  have rt_2 : ∀ W_, (binOp .eql 29 (.slice A0 s_0.length c0) (.slice none 0 0)).run Try.prog W_ = .ok (.bool nt_2) W_ := by intro W_; rw [← ht_2]; exact Lib.run_eql_slice_nil W_ _ _ _ _ _ _ _ Try.underlying29
  replace H := Go.Proofs.Ytdbgmcgjklmkkaa.GoK.nilK_hid H nt_2 (by rw [← ht_2]; exact mt_2) (by intro h_; subst h_; rfl)
  clear mt_2 ht_2
  cases nt_2 with
  | false =>
    replace H := ite_f H
    obtain ⟨w_t_4, hw_t_4⟩ : ∃ x, w.alloc (.cells #[] 96) = x := ⟨_, rfl⟩
    have bw_t_4 : Below w.heap.size w w_t_4 := by rw [← hw_t_4]; exact (Below.refl _ _).alloc (Nat.le_refl _) _
    have Ot_4 : Hid (w_t_4.ownsRow w.heap.size 96 4 (.slice (some ⟨w.heap.size, 0, none⟩) 0 0) 0 []) := Lib.hid (by rw [← hw_t_4]; exact own_empty HB.out.size)
    have HBw_t_4 := Lib.hid (Below.step HB.out bw_t_4)
    clear bw_t_4
    replace H := guard_hid H
    obtain ⟨hlt_6, H⟩ := H
    replace H := let_hid H
    obtain ⟨t_6, ht_6, H⟩ := H
    have hht_6 := Lib.hid ht_6
    clear ht_6
    have hst_6 := HBw_t_4.out.size
    have Ct_6 := Lib.hid ((Cells.below M0.out HBw_t_4.out))
    go_wp2_with (at_builtin; refine append_spread rfl _ _ 29 rfl w.heap.size 96 i0_96 (.agg #[.int .i64 0, .int .i64 0, .int .i64 0, .int .i64 0]) 4 32 Try.underlying29 hi_96 hz0_96 hz1_96 hz2_96 rfl (by decide) (some ⟨w.heap.size, 0, none⟩) 0 0 _ rfl Ot_4.out A0 s_0.length c0 (Go.Proofs.Ytdbgmcgjklmkkaa.PBan.flat s_0) rfl Q0.out Ct_6.out (fun u hu => by obtain ⟨y_, _, hy_⟩ := List.mem_flatMap.1 hu; simp only [Go.Proofs.Ytdbgmcgjklmkkaa.PBan.Ban.cells, List.mem_cons, List.not_mem_nil, or_false] at hy_; rcases hy_ with rfl | rfl | rfl | rfl <;> rfl) (by unfold maxLen; simp only [List.length_nil] at hlt_6; omega) (by simp only [List.length_nil] at hlt_6; omega) hst_6 ?_; intro vt_6 wt_6 ot_6 gt_6 yt_6; obtain ⟨At_6, ct_6, rfl, pt_6⟩ := own_pushS (f := Go.Proofs.Ytdbgmcgjklmkkaa.PBan.flat) hht_6.out (by simp [Go.Proofs.Ytdbgmcgjklmkkaa.PBan.flat]) rfl ot_6; have Pt_6 := Lib.hid pt_6; have Yt_6 := Lib.hid yt_6; have Gt_6 := Lib.hid gt_6; clear ot_6 gt_6 pt_6 yt_6; refine stop_in ?_)
    refine stop_out ?_
    clear Ct_6
    have HBwt_6 := Lib.hid (HBw_t_4.out.grown Gt_6.out hst_6 (fun q hq => (Ot_4.out.lt q hq).1))
    clear hst_6
    clear Ot_4 Yt_6 Gt_6
    obtain rfl := ret_hid H
    go_wp2_with fail
    go_ret
    exact ⟨At_6, ct_6, rfl, Pt_6.out, HBwt_6.out⟩
  | true =>
    replace H := ite_t H
    obtain rfl := ret_hid H
    go_wp2_with fail
    go_ret
    exact ⟨none, 0, rfl, own_nil, HB.out⟩
end Go.Proofs.Ytdbgmcgjklmkkaa.GxSlicesCloneLoopExampleG01062ImplBanLoopExampleG01062ImplBan

