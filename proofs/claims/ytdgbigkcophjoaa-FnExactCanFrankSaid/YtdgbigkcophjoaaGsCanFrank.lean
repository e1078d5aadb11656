/- loop.example/g01062/spec.CanFrank as a plain function, and the contract of the program's: where the plain one has an answer, the program has it. Conditions: slices read as lists. -/
import Derived.Test.YtdgbigkcophjoaaChecked
import Derived.Test.YtdgbigkcophjoaaGoM
import Derived.Test.YtdgbigkcophjoaaGoRStamp
import Derived.Test.YtdgbigkcophjoaaHelpInt
import Derived.Test.YtdgbigkcophjoaaHelpStamp
import Derived.Test.YtdgbigkcophjoaaGsL2Stamps
import Derived.Test.YtdgbigkcophjoaaGsL1In
import Derived.WalkKit
import Derived.WalkSpells
import Derived.WalkLawsBesides
import Derived.BigQuiet
import Derived.OwnWalk
import Derived.Deep.LoopGhost
import Derived.Deep.QuietTactic
import Derived.IntWalk
import Derived.Lib.QuietBelow
namespace Go.Proofs.Ytdgbigkcophjoaa.GsCanFrank
set_option linter.unusedVariables false
set_option linter.unusedSimpArgs false
open Go.RowKit
open Go.Proofs.Ytdgbigkcophjoaa.Rowed Go.Proofs.Ytdgbigkcophjoaa.Turn Go.Proofs.Ytdgbigkcophjoaa.Aid Go.Proofs.Ytdgbigkcophjoaa.GoP Go.Proofs.Ytdgbigkcophjoaa.GoM

def l1 (list : (List Go.Proofs.Ytdgbigkcophjoaa.PlainStamp.St)) (value_8l0 : Int) (k1 : Nat) (s : (List Bool)) (nx1 bk1 : (List Bool) → Option ((List Int) × Bool)) : Option ((List Int) × Bool) :=
  letK s fun can_7l1 =>
  Option.bind (idx list (k1 : Int)) fun (yt_33 : Go.Proofs.Ytdgbigkcophjoaa.PlainStamp.St) =>
  unStamp yt_33 fun (t_33_id : Int) (t_33_face : Int) (t_33_color : Int) (t_33_year : Int) =>
  letK (decide (0 < t_33_face)) fun (t_38 : Bool) =>
  joinK (fun (t_43 : Bool) =>
  joinK (fun (t_51 : Bool) =>
  iteK t_51
  (Option.bind (idx can_7l1 value_8l0) fun (yt_54 : Bool) =>
  letK (can_7l1.set (value_8l0).toNat true) fun (l55_55 : (List Bool)) =>
  appK nx1 (l55_55))
  (appK nx1 (can_7l1))) fun jt_51 => iteK t_43 (letK (IntKind.i64.wrap (value_8l0 - t_33_face)) fun (t_48 : Int) =>
  Option.bind (idx can_7l1 t_48) fun (yt_49 : Bool) =>
  appK jt_51 yt_49) (appK jt_51 false)) fun jt_43 => iteK t_38 (letK (decide (t_33_face ≤ value_8l0)) fun (t_42 : Bool) =>
  appK jt_43 t_42) (appK jt_43 false)

def e1 (nx0 : ((List Int) × (List Bool) × Int) → Option ((List Int) × Bool)) (out_6l0 : (List Int)) (value_8l0 : Int) (s : (List Bool)) : Option ((List Int) × Bool) :=
  letK s fun can_7l1 =>
  Option.bind (idx can_7l1 value_8l0) fun (yt_61 : Bool) =>
  iteK yt_61
  (guardK (out_6l0.length ≤ 1099511627776) <|
  letK (out_6l0 ++ [value_8l0]) fun (t_66 : (List Int)) =>
  letK (IntKind.i64.wrap (value_8l0 + 1)) fun (t_69 : Int) =>
  appK nx0 (t_66, can_7l1, t_69))
  (letK (IntKind.i64.wrap (value_8l0 + 1)) fun (t_69 : Int) =>
  appK nx0 (out_6l0, can_7l1, t_69))

def l0 (list : (List Go.Proofs.Ytdgbigkcophjoaa.PlainStamp.St)) (most : Int) (s : (List Int) × (List Bool) × Int) (nx0 bk0 : (List Int) × (List Bool) × Int → Option ((List Int) × Bool)) : Option ((List Int) × Bool) :=
  unp3 s fun out_6l0 can_7l0 value_8l0 =>
  letK (decide (value_8l0 ≤ most)) fun (t_25 : Bool) =>
  iteK t_25
  (cntK (l1 list value_8l0) (list.length) 0 (can_7l0) (e1 nx0 out_6l0 value_8l0))
  (appK bk0 (out_6l0, can_7l0, value_8l0))

def e0  (s : (List Int) × (List Bool) × Int) : Option ((List Int) × Bool) :=
  unp3 s fun out_6l0 can_7l0 value_8l0 =>
  some (out_6l0, true)

def P (fuel : Nat) (list : (List Go.Proofs.Ytdgbigkcophjoaa.PlainStamp.St)) (most : Int) : Option ((List Int) × Bool) :=
  Option.bind (Go.Proofs.Ytdgbigkcophjoaa.GsL2Stamps.P list) fun (t_5 : Bool) =>
  letK (!t_5) fun (t_6 : Bool) =>
  joinK (fun (t_11 : Bool) =>
  iteK t_11
  (some (([] : List Int), false))
  (letK (IntKind.i64.wrap (most + 1)) fun (t_16 : Int) =>
  guardK (0 ≤ t_16 ∧ t_16 ≤ 1099511627776) <|
  letK (List.replicate (t_16).toNat false) fun (t_17 : (List Bool)) =>
  Option.bind (idx t_17 0) fun (yt_20 : Bool) =>
  letK (t_17.set 0 true) fun (l21_21 : (List Bool)) =>
  loopK (l0 list most) fuel (([] : List Int), l21_21, 1) (e0 ))) fun jt_11 => iteK t_6 (appK jt_11 true) (Option.bind (Go.Proofs.Ytdgbigkcophjoaa.GsL1In.P most 1 500) fun (t_9 : Bool) =>
  letK (!t_9) fun (t_10 : Bool) =>
  appK jt_11 t_10)

set_option maxRecDepth 100000 in
set_option maxHeartbeats 2000000 in
theorem C (fuel : Nat) (list : (List Go.Proofs.Ytdgbigkcophjoaa.PlainStamp.St)) (most : Int) (A0 : Option Addr) (c0 : Nat)  (w : World) (M0 : Hid (Cells w 4 A0 list.length (Go.Proofs.Ytdgbigkcophjoaa.PlainStamp.flat list))) (N0 : Hid (list.length ≤ 9223372036854775807))  {r0 : (List Int)} {r1 : Bool} (H : Hid (P fuel list most = some (r0, r1))) :
    Calls Try.prog 30 #[.slice A0 list.length c0, .int .i64 most] w (fun e w' => ∃ A_r0 c_r0, e = .returned (.tuple #[.slice A_r0 r0.length c_r0, .bool r1]) ∧ w'.ownsRow w.heap.size 3 1 (.slice A_r0 r0.length c_r0) r0.length (Go.Proofs.Ytdgbigkcophjoaa.HelpInt.iv r0) ∧ Below w.heap.size w w') := by
  have HB := Lib.hid (Below.refl w.heap.size w)
  unfold P at H
  have N0o := N0.out
  obtain ⟨i0_4, hi_4, hz0_4, hz1_4, hz2_4⟩ := Aid.info_parts (P := Try.prog) (T := 4) (z := .bool false) (s := 1) (b := 1) (by kernel_rfl)
  obtain ⟨i0_3, hi_3, hz0_3, hz1_3, hz2_3⟩ := Aid.info_parts (P := Try.prog) (T := 3) (z := .int .i64 0) (s := 1) (b := 8) (by kernel_rfl)
  go_enter Try.func30, Try.ntmps30
  obtain ⟨w_t_2, hw_t_2⟩ : ∃ x, w.alloc (.cells #[] 3) = x := ⟨_, rfl⟩
  have bw_t_2 : Below w.heap.size w w_t_2 := by rw [← hw_t_2]; exact (Below.refl _ _).alloc (Nat.le_refl _) _
  have Ot_2 : Hid (w_t_2.ownsRow w.heap.size 3 1 (.slice (some ⟨w.heap.size, 0, none⟩) 0 0) 0 []) := Lib.hid (by rw [← hw_t_2]; exact own_empty HB.out.size)
  have HBw_t_2 := Lib.hid (Below.step HB.out bw_t_2)
  clear bw_t_2
  replace H := bind_hid H
  obtain ⟨t_5, qt_5, H⟩ := H
  go_wp2_with fail
  go_at_call 61
  refine (Go.Proofs.Ytdgbigkcophjoaa.GsL2Stamps.C (list) A0 c0 _   (Lib.hid (Cells.below M0.out HBw_t_2.out)) N0 qt_5).mono ?_
  rintro e_t_5 wt_5 ⟨rfl, bt_5⟩
  have HBwt_5 := Lib.hid (Below.step HBw_t_2.out bt_5)
  replace Ot_2 := Lib.hid (own_below Ot_2.out bt_5)
  clear bt_5
  cases t_5 with
  | false =>
    replace H := let_hid H
    obtain ⟨t_6, ht_6, H⟩ := H
    obtain rfl : t_6 = true := ht_6.symm
    replace H := join_hid H
    replace H := ite_t H
    replace H := app_hid H
    replace H := ite_t H
    cases ret_hid H
    go_wp2_with fail
    go_ret2
    exact ⟨(some ⟨w.heap.size, 0, none⟩), 0, rfl, Ot_2.out, HBwt_5.out⟩
  | true =>
    replace H := let_hid H
    obtain ⟨t_6, ht_6, H⟩ := H
    obtain rfl : t_6 = false := ht_6.symm
    replace H := join_hid H
    replace H := ite_f H
    replace H := bind_hid H
    obtain ⟨t_9, qt_9, H⟩ := H
    go_wp2_with fail
    go_at_call 67
    refine (Go.Proofs.Ytdgbigkcophjoaa.GsL1In.C (most) (1) (500)  _    qt_9).mono ?_
    rintro e_t_9 wt_9 ⟨rfl, bt_9⟩
    have HBwt_9 := Lib.hid (Below.step HBwt_5.out bt_9)
    replace Ot_2 := Lib.hid (own_below Ot_2.out bt_9)
    clear bt_9
    cases t_9 with
    | false =>
      replace H := let_hid H
      obtain ⟨t_10, ht_10, H⟩ := H
      obtain rfl : t_10 = true := ht_10.symm
      replace H := app_hid H
      replace H := ite_t H
      cases ret_hid H
      go_wp2_with fail
      go_ret2
      exact ⟨(some ⟨w.heap.size, 0, none⟩), 0, rfl, Ot_2.out, HBwt_9.out⟩
    | true =>
      replace H := let_hid H
      obtain ⟨t_10, ht_10, H⟩ := H
      obtain rfl : t_10 = false := ht_10.symm
      replace H := app_hid H
      replace H := ite_f H
      replace H := let_hid H
      obtain ⟨t_16, ht_16, H⟩ := H
      replace H := guard_hid H
      obtain ⟨hnt_17, H⟩ := H
      obtain ⟨Nt_17, eNt_17⟩ : ∃ N : Nat, t_16 = (N : Int) := ⟨(t_16).toNat, by omega⟩
      subst eNt_17
      replace H := let_hid H
      obtain ⟨t_17, ht_17, H⟩ := H
      simp only [Int.toNat_natCast] at ht_17
      have hst_17 := HBwt_9.out.size
      have hlt_17 : t_17.length = Nt_17 := by rw [← ht_17]; simp
      have hht_17 := Lib.hid ht_17
      clear ht_17
      have Dt_17_t_2 := Lib.hid (apart_fresh Ot_2.out)
      go_wp2_with (at_make; refine wpList_make_full _ rfl _ _ 85 rfl w.heap.size 4 i0_4 (.bool false) 1 Try.underlying85 hi_4 hz0_4 hz1_4 .i64 .i64 _ _ Nt_17 rfl rfl (by omega) (by omega) (by rw [hz2_4]; omega) (by unfold maxLen; omega) hst_17 ?_; intro wt_17 ot_17 gt_17; have Qt_17 := Lib.hid ot_17; have Gt_17 := Lib.hid gt_17; clear ot_17 gt_17; refine stop_in ?_)
      refine stop_out ?_
      have hv_ : (Value.slice (some ⟨wt_9.heap.size, 0, none⟩) Nt_17 Nt_17 : Value) = Value.slice (some ⟨wt_9.heap.size, 0, none⟩) t_17.length Nt_17 := by rw [hlt_17]
      rw [hv_]
      clear hv_
      have Et_17 : (t_17.map Value.bool) = (madeCells (.bool false : Value).cells (Nt_17 * 1)).toList := by
        rw [made_flat (fun x => [.bool x]) false _ 1 _ rfl rfl (by decide), ← hht_17.out]
        exact map_flat _ _
      have Pt_17 : Hid (wt_17.ownsRow w.heap.size 4 1 (.slice (some ⟨wt_9.heap.size, 0, none⟩) Nt_17 Nt_17) Nt_17 (t_17.map Value.bool)) := Lib.hid (by rw [Et_17]; exact Qt_17.out)
      clear Et_17
      replace hlt_17 := Lib.hid hlt_17
      clear Qt_17 hst_17
      have bt_17 : Below wt_9.heap.size wt_9 wt_17 := (Below.refl _ _).grown Gt_17.out (Nat.le_refl _) (by simp)
      clear Gt_17
      have HBwt_17 := Lib.hid (Below.step HBwt_9.out bt_17)
      replace Ot_2 := Lib.hid (own_below Ot_2.out bt_17)
      clear bt_17
      replace Pt_17 := Lib.hid (own_len hlt_17.out Pt_17.out)
      replace H := idx_hid H
      obtain ⟨nt_20, yt_20, et_20, lt_20, gt_20, H⟩ := H
      obtain rfl : 0 = nt_20 := by omega
      clear et_20
      obtain ⟨ab_t_20, ao_t_20, zt_20, At_20, z_t_20, ct_20_0⟩ := bools_at (own_cells Pt_17.out) (k := 0) (by omega)
      obtain rfl := Option.some.inj (gt_20.out.symm.trans z_t_20)
      simp only [Option.some.injEq, Addr.mk.injEq] at At_20
      obtain ⟨rfl, rfl, _⟩ := At_20
      clear z_t_20
      have b1t_20 : (0 : Int) < ((t_17.length : Nat) : Int) := by omega
      have b3t_20 : 0 < t_17.length := by omega
      try simp only [Nat.zero_mul, Nat.add_zero, Nat.zero_add, Nat.reduceMul] at ct_20_0
      replace H := let_hid H
      obtain ⟨l21_21, hl21_21, H⟩ := H
      obtain ⟨wl21_21, hwl21_21⟩ : ∃ x, (wt_17).setCell ⟨wt_9.heap.size, 0, none⟩ (.bool true) = x := ⟨_, rfl⟩
      have z0l21_21 := Pt_17.out.frozenAt (0)
      have Sl21_21 := Lib.hid (own_stores [(0, .bool true)] Pt_17.out)
      have nl21_21 : Hid (l21_21.length = t_17.length) := Lib.hid (by rw [← hl21_21, List.length_set])
      have Pl21_21 : Hid (wl21_21.ownsRow w.heap.size 4 1 (.slice (some ⟨wt_9.heap.size, 0, none⟩) t_17.length Nt_17) t_17.length (l21_21.map Value.bool)) := Lib.hid (by have e_ : ([(0, .bool true)] : List (Nat × Value)).foldl (fun xs p => xs.set p.1 p.2) (t_17.map Value.bool) = (l21_21.map Value.bool) := (by rw [← hl21_21]; first | done | simp [List.map_set]); rw [← hwl21_21, ← e_]; exact Sl21_21.out.1)
      have Gl21_21 : Hid (wt_17.grownBy wl21_21 (Value.slice (some ⟨wt_9.heap.size, 0, none⟩) t_17.length Nt_17).ownBlock) := Lib.hid (by rw [← hwl21_21]; exact Sl21_21.out.2)
      have HBwl21_21 := Lib.hid (HBwt_17.out.grown Gl21_21.out HBwt_17.out.size (fun q hq => (Pt_17.out.lt q hq).1))
      have hhl21_21 := Lib.hid hl21_21
      clear hl21_21 Sl21_21
      replace Ot_2 := Lib.hid (own_other Ot_2.out Gl21_21.out Dt_17_t_2.out)
      clear Pt_17 Gl21_21
      go_wp2_with fail
      clear z0l21_21 ct_20_0
      go_wp2_with fail
      go_loopg [6, 8] (fuel) (fun m_ v6_ v8_ wr => ∃ (out_6l0 : (List Int)) (can_7l0 : (List Bool)) (value_8l0 : Int) (Aout_6l0 : Option Addr) (cout_6l0 : Nat), v6_ = .slice Aout_6l0 out_6l0.length cout_6l0 ∧ v8_ = .int .i64 value_8l0 ∧ Hid (loopK (l0 list most) m_ (out_6l0, can_7l0, value_8l0) (e0 ) = some (r0, r1)) ∧ Hid (Below w.heap.size w wr) ∧ Hid (wr.ownsRow w.heap.size 3 1 (.slice Aout_6l0 out_6l0.length cout_6l0) out_6l0.length (Go.Proofs.Ytdgbigkcophjoaa.HelpInt.iv out_6l0)) ∧ Hid (wr.ownsRow w.heap.size 4 1 (.slice (some ⟨wt_9.heap.size, 0, none⟩) t_17.length Nt_17) t_17.length (can_7l0.map Value.bool)) ∧ Hid (can_7l0.length = t_17.length) ∧ Hid (Apart Aout_6l0 (some ⟨wt_9.heap.size, 0, none⟩)))
      case atStart => exact ⟨_, _, _, _, _, rfl, rfl, H, HBwl21_21, Ot_2, Pl21_21, Lib.hid (nl21_21.out), Lib.hid (Apart.symm Dt_17_t_2.out)⟩
      case round =>
        obtain ⟨out_6l0, can_7l0, value_8l0, Aout_6l0, cout_6l0, rfl, rfl, H, HBwr0, Oout_6l0, Ocan_7l0, hncan_7l0, Dout_6l0_can_7l0⟩ := hrel
        rename World => wr0
        cases gk with
        | zero => exact (loop_zero H).elim
        | succ m0 =>
          replace H := loop_succ H
          unfold l0 at H
          replace H := unp3_hid H
          replace H := let_hid H
          obtain ⟨t_25, ht_25, H⟩ := H
          cases t_25 with
          | false =>
            replace H := ite_f H
            replace H := app_hid H
            unfold e0 at H
            replace H := unp3_hid H
            cases ret_hid H
            go_wp2_with fail
            go_ret2
            exact ⟨Aout_6l0, cout_6l0, rfl, Oout_6l0.out, HBwr0.out⟩
          | true =>
            replace H := ite_t H
            go_wp2_with fail
            go_wp2_with fail
            go_loopg [9] (list.length) (fun m_ v9_ wr => ∃ (k1 : Nat) (can_7l1 : (List Bool)), k1 + m_ = list.length ∧ v9_ = .int .i64 (k1 : Int) ∧ Hid (cntK (l1 list value_8l0) m_ k1 (can_7l1) (e1 (fun s' => loopK (l0 list most) m0 s' (e0 )) out_6l0 value_8l0) = some (r0, r1)) ∧ Hid (Below w.heap.size w wr) ∧ Hid (wr.ownsRow w.heap.size 4 1 (.slice (some ⟨wt_9.heap.size, 0, none⟩) t_17.length Nt_17) t_17.length (can_7l1.map Value.bool)) ∧ Hid (can_7l1.length = t_17.length) ∧ Hid (wr.ownsRow w.heap.size 3 1 (.slice Aout_6l0 out_6l0.length cout_6l0) out_6l0.length (Go.Proofs.Ytdgbigkcophjoaa.HelpInt.iv out_6l0)) ∧ Hid (Apart (some ⟨wt_9.heap.size, 0, none⟩) Aout_6l0))
            case atStart => exact ⟨0, _, by omega, rfl, H, HBwr0, Ocan_7l0, Lib.hid (hncan_7l0.out), Oout_6l0, Lib.hid (Apart.symm Dout_6l0_can_7l0.out)⟩
            case round =>
              obtain ⟨k1, can_7l1, hkm1, rfl, H, HBwr1, Ocan_7l1, hncan_7l1, Oout_6l0, Dcan_7l1_out_6l0⟩ := hrel
              rename World => wr1
              cases gk with
              | zero =>
                obtain rfl : k1 = list.length := by omega
                have hc1 : decide (((list.length : Nat) : Int) < ((list.length : Nat) : Int)) = false := by simp
                replace H := cnt_zero H
                unfold e1 at H
                replace H := let_hid H
                obtain ⟨_, rfl, H⟩ := H
                replace H := idx_hid H
                obtain ⟨nt_61, yt_61, et_61, lt_61, gt_61, H⟩ := H
                subst et_61
                have hqt_61 := hncan_7l1.out
                obtain ⟨ab_t_61, ao_t_61, zt_61, At_61, z_t_61, ct_61_0⟩ := bools_at (own_cells Ocan_7l1.out) (k := nt_61) (by omega)
                obtain rfl := Option.some.inj (gt_61.out.symm.trans z_t_61)
                simp only [Option.some.injEq, Addr.mk.injEq] at At_61
                obtain ⟨rfl, rfl, _⟩ := At_61
                clear z_t_61
                simp only [Nat.zero_add] at ct_61_0
                have b0t_61 : (0 : Int) ≤ (nt_61 : Int) := by omega
                have b1t_61 : (nt_61 : Int) < ((t_17.length : Nat) : Int) := by omega
                have b2t_61 : ((nt_61 : Int)).toNat = nt_61 := by omega
                clear hqt_61
                cases yt_61 with
                | false =>
                  replace H := ite_f H
                  replace H := let_hid H
                  obtain ⟨t_69, ht_69, H⟩ := H
                  replace H := app_hid H
                  go_wp2_with fail
                  go_roundg m0
                  case measure => omega
                  case rel => exact ⟨_, _, _, _, _, rfl, rfl, H, HBwr1, Oout_6l0, Ocan_7l1, Lib.hid (hncan_7l1.out), Lib.hid (Apart.symm Dcan_7l1_out_6l0.out)⟩
                | true =>
                  replace H := ite_t H
                  obtain ⟨w_t_65, hw_t_65⟩ : ∃ x, wr1.alloc (.cells #[.int .i64 (nt_61 : Int)] 3) = x := ⟨_, rfl⟩
                  have bw_t_65 : Below wr1.heap.size wr1 w_t_65 := by rw [← hw_t_65]; exact (Below.refl _ _).alloc (Nat.le_refl _) _
                  have HBw_t_65 := Lib.hid (Below.step HBwr1.out bw_t_65)
                  have ct_61_0__148 := cell_below bw_t_65 ct_61_0
                  replace Oout_6l0 := Lib.hid (own_below Oout_6l0.out bw_t_65)
                  replace Ocan_7l1 := Lib.hid (own_below Ocan_7l1.out bw_t_65)
                  clear bw_t_65
                  replace H := guard_hid H
                  obtain ⟨hlt_66, H⟩ := H
                  replace H := let_hid H
                  obtain ⟨t_66, ht_66, H⟩ := H
                  have hht_66 := Lib.hid ht_66
                  clear ht_66
                  have hst_66 := HBw_t_65.out.size
                  go_wp2_with (at_builtin; refine wpList_append_own_at _ rfl _ _ 29 rfl w.heap.size 3 i0_3 (.int .i64 0) 1 8 Try.underlying29 hi_3 hz0_3 hz1_3 hz2_3 rfl (by decide) _ _ _ rfl Oout_6l0.out ⟨wr1.heap.size, 0, none⟩ 1 1 [.int .i64 (nt_61 : Int)] rfl rfl (news_new hw_t_65) (one_cells rfl) (by unfold maxLen; omega) (by omega) hst_66 ?_; intro vt_66 wt_66 ot_66 gt_66 zt_66 yt_66; clear zt_66; obtain ⟨qt_66, ct_66, rfl, pt_66⟩ := own_push hht_66.out (Go.Proofs.Ytdgbigkcophjoaa.HelpInt.iv_snoc _ _) rfl ot_66; have Pt_66 := Lib.hid pt_66; have Yt_66 := Lib.hid yt_66; have Gt_66 := Lib.hid gt_66; clear ot_66 gt_66 pt_66 yt_66; refine stop_in ?_)
                  refine stop_out ?_
                  have HBwt_66 := Lib.hid (HBw_t_65.out.grown Gt_66.out hst_66 (fun q hq => (Oout_6l0.out.lt q hq).1))
                  clear hst_66
                  have Dt_66_can_7l1 : Hid (Apart (some ⟨qt_66, 0, none⟩) _) := Lib.hid (apart_app (Apart.symm Dcan_7l1_out_6l0.out) (fun a_ ha_ => (own_lt Ocan_7l1.out a_ ha_).2) Yt_66.out)
                  replace ct_61_0__148 := cell_other ct_61_0__148 Gt_66.out (Apart.symm Dcan_7l1_out_6l0.out)
                  replace Ocan_7l1 := Lib.hid (own_other Ocan_7l1.out Gt_66.out (Apart.symm Dcan_7l1_out_6l0.out))
                  clear ct_61_0
                  clear Oout_6l0 Yt_66 Gt_66
                  replace H := let_hid H
                  obtain ⟨t_69, ht_69, H⟩ := H
                  replace H := app_hid H
                  go_wp2_with fail
                  go_roundg m0
                  case measure => omega
                  case rel => exact ⟨_, _, _, _, _, rfl, rfl, H, HBwt_66, Pt_66, Ocan_7l1, Lib.hid (hncan_7l1.out), Lib.hid Dt_66_can_7l1.out⟩
              | succ m1 =>
                have hlt1 : k1 < list.length := by omega
                have hc1 : decide ((k1 : Int) < ((list.length : Nat) : Int)) = true := by simp; omega
                replace H := cnt_succ H
                unfold l1 at H
                replace H := let_hid H
                obtain ⟨_, rfl, H⟩ := H
                replace H := idx_hid H
                obtain ⟨nt_33, yt_33, et_33, lt_33, gt_33, H⟩ := H
                obtain rfl : k1 = nt_33 := by omega
                clear et_33
                obtain ⟨t_33_id, t_33_face, t_33_color, t_33_year⟩ := yt_33
                replace H := unStamp_hid H
                obtain ⟨ab_t_33, ao_t_33, zt_33, At_33, z_t_33, ct_33_0, ct_33_1, ct_33_2, ct_33_3⟩ := Go.Proofs.Ytdgbigkcophjoaa.HelpStamp.Sts.at_ M0.out lt_33
                obtain rfl := Option.some.inj (gt_33.out.symm.trans z_t_33)
                subst At_33
                have ltt_33 := cell_lt ct_33_0
                replace ct_33_0 := cell_below HBwr1.out ct_33_0
                replace ct_33_1 := cell_below HBwr1.out ct_33_1
                replace ct_33_2 := cell_below HBwr1.out ct_33_2
                replace ct_33_3 := cell_below HBwr1.out ct_33_3
                clear z_t_33
                have b0t_33 : (0 : Int) ≤ (k1 : Int) := by omega
                have b1t_33 : (k1 : Int) < ((list.length : Nat) : Int) := by omega
                have b2t_33 : ((k1 : Int)).toNat = k1 := by omega
                replace H := let_hid H
                obtain ⟨t_38, ht_38, H⟩ := H
                replace H := join_hid H
                cases t_38 with
                | false =>
                  replace H := ite_f H
                  replace H := app_hid H
                  replace H := join_hid H
                  replace H := ite_f H
                  replace H := app_hid H
                  replace H := ite_f H
                  replace H := app_hid H
                  go_wp2_with fail
                  go_roundg m1
                  case measure => omega
                  case rel => exact ⟨k1 + 1, _, by omega, by go_num, H, HBwr1, Ocan_7l1, Lib.hid (hncan_7l1.out), Oout_6l0, Lib.hid Dcan_7l1_out_6l0.out⟩
                | true =>
                  replace H := ite_t H
                  replace H := let_hid H
                  obtain ⟨t_42, ht_42, H⟩ := H
                  replace H := app_hid H
                  replace H := join_hid H
                  cases t_42 with
                  | false =>
                    replace H := ite_f H
                    replace H := app_hid H
                    replace H := ite_f H
                    replace H := app_hid H
                    go_wp2_with fail
                    go_roundg m1
                    case measure => omega
                    case rel => exact ⟨k1 + 1, _, by omega, by go_num, H, HBwr1, Ocan_7l1, Lib.hid (hncan_7l1.out), Oout_6l0, Lib.hid Dcan_7l1_out_6l0.out⟩
                  | true =>
                    replace H := ite_t H
                    replace H := let_hid H
                    obtain ⟨t_48, ht_48, H⟩ := H
                    replace H := idx_hid H
                    obtain ⟨nt_49, yt_49, et_49, lt_49, gt_49, H⟩ := H
                    subst et_49
                    have hqt_49 := hncan_7l1.out
                    obtain ⟨ab_t_49, ao_t_49, zt_49, At_49, z_t_49, ct_49_0⟩ := bools_at (own_cells Ocan_7l1.out) (k := nt_49) (by omega)
                    obtain rfl := Option.some.inj (gt_49.out.symm.trans z_t_49)
                    simp only [Option.some.injEq, Addr.mk.injEq] at At_49
                    obtain ⟨rfl, rfl, _⟩ := At_49
                    clear z_t_49
                    simp only [Nat.zero_add] at ct_49_0
                    have b0t_49 : (0 : Int) ≤ (nt_49 : Int) := by omega
                    have b1t_49 : (nt_49 : Int) < ((t_17.length : Nat) : Int) := by omega
                    have b2t_49 : ((nt_49 : Int)).toNat = nt_49 := by omega
                    clear hqt_49
                    replace H := app_hid H
                    cases yt_49 with
                    | false =>
                      replace H := ite_f H
                      replace H := app_hid H
                      go_wp2_with fail
                      go_roundg m1
                      case measure => omega
                      case rel => exact ⟨k1 + 1, _, by omega, by go_num, H, HBwr1, Ocan_7l1, Lib.hid (hncan_7l1.out), Oout_6l0, Lib.hid Dcan_7l1_out_6l0.out⟩
                    | true =>
                      replace H := ite_t H
                      replace H := idx_hid H
                      obtain ⟨nt_54, yt_54, et_54, lt_54, gt_54, H⟩ := H
                      subst et_54
                      have hqt_54 := hncan_7l1.out
                      obtain ⟨ab_t_54, ao_t_54, zt_54, At_54, z_t_54, ct_54_0⟩ := bools_at (own_cells Ocan_7l1.out) (k := nt_54) (by omega)
                      obtain rfl := Option.some.inj (gt_54.out.symm.trans z_t_54)
                      simp only [Option.some.injEq, Addr.mk.injEq] at At_54
                      obtain ⟨rfl, rfl, _⟩ := At_54
                      clear z_t_54
                      simp only [Nat.zero_add] at ct_54_0
                      have b0t_54 : (0 : Int) ≤ (nt_54 : Int) := by omega
                      have b1t_54 : (nt_54 : Int) < ((t_17.length : Nat) : Int) := by omega
                      have b2t_54 : ((nt_54 : Int)).toNat = nt_54 := by omega
                      clear hqt_54
                      replace H := let_hid H
                      obtain ⟨l55_55, hl55_55, H⟩ := H
                      obtain ⟨wl55_55, hwl55_55⟩ : ∃ x, (wr1).setCell ⟨wt_9.heap.size, nt_54, none⟩ (.bool true) = x := ⟨_, rfl⟩
                      have z0l55_55 := Ocan_7l1.out.frozenAt (nt_54)
                      have Sl55_55 := Lib.hid (own_stores [(nt_54, .bool true)] Ocan_7l1.out)
                      have nl55_55 : Hid (l55_55.length = t_17.length) := Lib.hid (by rw [← hl55_55, List.length_set]; exact hncan_7l1.out)
                      have Pl55_55 : Hid (wl55_55.ownsRow w.heap.size 4 1 (.slice (some ⟨wt_9.heap.size, 0, none⟩) t_17.length Nt_17) t_17.length (l55_55.map Value.bool)) := Lib.hid (by have e_ : ([(nt_54, .bool true)] : List (Nat × Value)).foldl (fun xs p => xs.set p.1 p.2) (can_7l1.map Value.bool) = (l55_55.map Value.bool) := (by rw [← hl55_55]; first | done | simp [List.map_set]); rw [← hwl55_55, ← e_]; exact Sl55_55.out.1)
                      have Gl55_55 : Hid (wr1.grownBy wl55_55 (Value.slice (some ⟨wt_9.heap.size, 0, none⟩) t_17.length Nt_17).ownBlock) := Lib.hid (by rw [← hwl55_55]; exact Sl55_55.out.2)
                      have HBwl55_55 := Lib.hid (HBwr1.out.grown Gl55_55.out HBwr1.out.size (fun q hq => (Ocan_7l1.out.lt q hq).1))
                      have hhl55_55 := Lib.hid hl55_55
                      clear hl55_55 Sl55_55
                      have ct_33_0__149 := cell_other ct_33_0 Gl55_55.out (apart_old Ocan_7l1.out ltt_33)
                      have ct_33_1__150 := cell_other ct_33_1 Gl55_55.out (apart_old Ocan_7l1.out ltt_33)
                      have ct_33_2__151 := cell_other ct_33_2 Gl55_55.out (apart_old Ocan_7l1.out ltt_33)
                      have ct_33_3__152 := cell_other ct_33_3 Gl55_55.out (apart_old Ocan_7l1.out ltt_33)
                      replace Oout_6l0 := Lib.hid (own_other Oout_6l0.out Gl55_55.out Dcan_7l1_out_6l0.out)
                      clear Ocan_7l1 Gl55_55
                      replace H := app_hid H
                      go_wp2_with fail
                      clear z0l55_55 ct_33_0 ct_33_1 ct_33_2 ct_33_3 ct_49_0 ct_54_0
                      go_roundg m1
                      case measure => omega
                      case rel => exact ⟨k1 + 1, _, by omega, by go_num, H, HBwl55_55, Pl55_55, Lib.hid (nl55_55.out), Oout_6l0, Lib.hid Dcan_7l1_out_6l0.out⟩
end Go.Proofs.Ytdgbigkcophjoaa.GsCanFrank
