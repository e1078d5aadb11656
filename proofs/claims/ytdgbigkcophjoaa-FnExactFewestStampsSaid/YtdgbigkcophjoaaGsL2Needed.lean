/- loop.example/g01062/spec.l2Needed as a plain function, and the contract of the program's: where the plain one has an answer, the program has it. Conditions: slices read as lists. -/
import Derived.Test.YtdgbigkcophjoaaChecked
import Derived.Test.YtdgbigkcophjoaaGoM
import Derived.Test.YtdgbigkcophjoaaGoRStamp
import Derived.Test.YtdgbigkcophjoaaHelpInt
import Derived.Test.YtdgbigkcophjoaaHelpStamp
import Derived.Test.YtdgbigkcophjoaaGsL1Least
import Derived.WalkKit
import Derived.WalkSpells
import Derived.WalkLawsBesides
import Derived.BigQuiet
import Derived.OwnWalk
import Derived.Deep.LoopGhost
import Derived.Deep.QuietTactic
import Derived.IntWalk
import Derived.Lib.QuietBelow
import Derived.StillTailTactics
namespace Go.Proofs.Ytdgbigkcophjoaa.GsL2Needed
set_option linter.unusedVariables false
set_option linter.unusedSimpArgs false
open Go.RowKit
open Go.Proofs.Ytdgbigkcophjoaa.Rowed Go.Proofs.Ytdgbigkcophjoaa.Turn Go.Proofs.Ytdgbigkcophjoaa.Aid Go.Proofs.Ytdgbigkcophjoaa.GoP Go.Proofs.Ytdgbigkcophjoaa.GoM

def l1 (list : (List Go.Proofs.Ytdgbigkcophjoaa.PlainStamp.St)) (year : Int) (value_8l0 : Int) (k1 : Nat) (s : (List Int)) (nx1 bk1 : (List Int) → Option ((List Int))) : Option ((List Int)) :=
  letK s fun out_7l1 =>
  Option.bind (idx list (k1 : Int)) fun (yt_20 : Go.Proofs.Ytdgbigkcophjoaa.PlainStamp.St) =>
  unStamp yt_20 fun (t_20_id : Int) (t_20_face : Int) (t_20_color : Int) (t_20_year : Int) =>
  letK (decide (0 < t_20_face)) fun (t_26 : Bool) =>
  joinK (fun (t_32 : Bool) =>
  joinK (fun (t_38 : Bool) =>
  iteK t_38
  (Option.bind (idx out_7l1 value_8l0) fun (yt_43 : Int) =>
  letK (IntKind.i64.wrap (value_8l0 - t_20_face)) fun (t_49 : Int) =>
  Option.bind (idx out_7l1 t_49) fun (yt_50 : Int) =>
  letK (IntKind.i64.wrap (yt_50 + 1)) fun (t_52 : Int) =>
  Option.bind (Go.Proofs.Ytdgbigkcophjoaa.GsL1Least.P yt_43 t_52) fun (t_53 : Int) =>
  Option.bind (idx out_7l1 value_8l0) fun (yt_54 : Int) =>
  letK (out_7l1.set (value_8l0).toNat t_53) fun (l55_55 : (List Int)) =>
  appK nx1 (l55_55))
  (appK nx1 (out_7l1))) fun jt_38 => iteK t_32 (letK (decide (t_20_year ≤ year)) fun (t_37 : Bool) =>
  appK jt_38 t_37) (appK jt_38 false)) fun jt_32 => iteK t_26 (letK (decide (t_20_face ≤ value_8l0)) fun (t_31 : Bool) =>
  appK jt_32 t_31) (appK jt_32 false)

def e1 (nx0 : ((List Int) × Int) → Option ((List Int))) (value_8l0 : Int) (s : (List Int)) : Option ((List Int)) :=
  letK s fun out_7l1 =>
  letK (IntKind.i64.wrap (value_8l0 + 1)) fun (t_60 : Int) =>
  appK nx0 (out_7l1, t_60)

def l0 (list : (List Go.Proofs.Ytdgbigkcophjoaa.PlainStamp.St)) (rate : Int) (year : Int) (s : (List Int) × Int) (nx0 bk0 : (List Int) × Int → Option ((List Int))) : Option ((List Int)) :=
  unp2 s fun out_7l0 value_8l0 =>
  letK (decide (value_8l0 ≤ rate)) fun (t_8 : Bool) =>
  iteK t_8
  (Option.bind (idx out_7l0 value_8l0) fun (yt_11 : Int) =>
  letK (out_7l0.set (value_8l0).toNat 99) fun (l12_12 : (List Int)) =>
  cntK (l1 list year value_8l0) (list.length) 0 (l12_12) (e1 nx0 value_8l0))
  (appK bk0 (out_7l0, value_8l0))

def e0  (s : (List Int) × Int) : Option ((List Int)) :=
  unp2 s fun out_7l0 value_8l0 =>
  some out_7l0

def P (fuel : Nat) (list : (List Go.Proofs.Ytdgbigkcophjoaa.PlainStamp.St)) (rate : Int) (year : Int) : Option ((List Int)) :=
  letK (IntKind.i64.wrap (rate + 1)) fun (t_2 : Int) =>
  guardK (0 ≤ t_2 ∧ t_2 ≤ 1099511627776) <|
  letK (List.replicate (t_2).toNat 0) fun (t_3 : (List Int)) =>
  loopK (l0 list rate year) fuel (t_3, 1) (e0 )

set_option maxRecDepth 100000 in
set_option maxHeartbeats 2000000 in
theorem C (fuel : Nat) (list : (List Go.Proofs.Ytdgbigkcophjoaa.PlainStamp.St)) (rate : Int) (year : Int) (A0 : Option Addr) (c0 : Nat)  (w : World) (M0 : Hid (Cells w 4 A0 list.length (Go.Proofs.Ytdgbigkcophjoaa.PlainStamp.flat list))) (N0 : Hid (list.length ≤ 9223372036854775807))  {r : (List Int)} (H : Hid (P fuel list rate year = some r)) :
    Calls Try.prog 69 #[.slice A0 list.length c0, .int .i64 rate, .int .i64 year] w (fun e w' => ∃ A_r c_r, e = .returned (.slice A_r r.length c_r) ∧ w'.ownsRow w.heap.size 3 1 (.slice A_r r.length c_r) r.length (Go.Proofs.Ytdgbigkcophjoaa.HelpInt.iv r) ∧ Below w.heap.size w w') := by
  have HB := Lib.hid (Below.refl w.heap.size w)
  unfold P at H
  have N0o := N0.out
  obtain ⟨i0_3, hi_3, hz0_3, hz1_3, hz2_3⟩ := Aid.info_parts (P := Try.prog) (T := 3) (z := .int .i64 0) (s := 1) (b := 8) (by kernel_rfl)
  go_enter Try.func69, Try.ntmps69
  replace H := let_hid H
  obtain ⟨t_2, ht_2, H⟩ := H
  replace H := guard_hid H
  obtain ⟨hnt_3, H⟩ := H
  obtain ⟨Nt_3, eNt_3⟩ : ∃ N : Nat, t_2 = (N : Int) := ⟨(t_2).toNat, by omega⟩
  subst eNt_3
  replace H := let_hid H
  obtain ⟨t_3, ht_3, H⟩ := H
  simp only [Int.toNat_natCast] at ht_3
  have hst_3 := HB.out.size
  have hlt_3 : t_3.length = Nt_3 := by rw [← ht_3]; simp
  have hht_3 := Lib.hid ht_3
  clear ht_3
  go_wp2_with (at_make; refine wpList_make_full _ rfl _ _ 29 rfl w.heap.size 3 i0_3 (.int .i64 0) 1 Try.underlying29 hi_3 hz0_3 hz1_3 .i64 .i64 _ _ Nt_3 rfl rfl (by omega) (by omega) (by rw [hz2_3]; omega) (by unfold maxLen; omega) hst_3 ?_; intro wt_3 ot_3 gt_3; have Qt_3 := Lib.hid ot_3; have Gt_3 := Lib.hid gt_3; clear ot_3 gt_3; refine stop_in ?_)
  refine stop_out ?_
  have hv_ : (Value.slice (some ⟨w.heap.size, 0, none⟩) Nt_3 Nt_3 : Value) = Value.slice (some ⟨w.heap.size, 0, none⟩) t_3.length Nt_3 := by rw [hlt_3]
  rw [hv_]
  clear hv_
  have Et_3 : (Go.Proofs.Ytdgbigkcophjoaa.HelpInt.iv t_3) = (madeCells (.int .i64 0 : Value).cells (Nt_3 * 1)).toList := by
    rw [made_flat (fun x => [.int .i64 x]) 0 _ 1 _ rfl rfl (by decide), ← hht_3.out]
    exact map_flat _ _
  have Pt_3 : Hid (wt_3.ownsRow w.heap.size 3 1 (.slice (some ⟨w.heap.size, 0, none⟩) Nt_3 Nt_3) Nt_3 (Go.Proofs.Ytdgbigkcophjoaa.HelpInt.iv t_3)) := Lib.hid (by rw [Et_3]; exact Qt_3.out)
  clear Et_3
  replace hlt_3 := Lib.hid hlt_3
  clear Qt_3 hst_3
  have bt_3 : Below w.heap.size w wt_3 := (Below.refl _ _).grown Gt_3.out (Nat.le_refl _) (by simp)
  clear Gt_3
  have HBwt_3 := Lib.hid (Below.step HB.out bt_3)
  clear bt_3
  replace Pt_3 := Lib.hid (own_len hlt_3.out Pt_3.out)
  go_wp2_with fail
  go_wp2_with fail
  go_loopg [8] (fuel) (fun m_ v8_ wr => ∃ (out_7l0 : (List Int)) (value_8l0 : Int), v8_ = .int .i64 value_8l0 ∧ Hid (loopK (l0 list rate year) m_ (out_7l0, value_8l0) (e0 ) = some r) ∧ Hid (Below w.heap.size w wr) ∧ Hid (wr.ownsRow w.heap.size 3 1 (.slice (some ⟨w.heap.size, 0, none⟩) t_3.length Nt_3) t_3.length (Go.Proofs.Ytdgbigkcophjoaa.HelpInt.iv out_7l0)) ∧ Hid (out_7l0.length = t_3.length))
  case atStart => exact ⟨_, _, rfl, H, HBwt_3, Pt_3, Lib.hid (rfl)⟩
  case round =>
    obtain ⟨out_7l0, value_8l0, rfl, H, HBwr0, Oout_7l0, hnout_7l0⟩ := hrel
    rename World => wr0
    cases gk with
    | zero => exact (loop_zero H).elim
    | succ m0 =>
      replace H := loop_succ H
      unfold l0 at H
      replace H := unp2_hid H
      replace H := let_hid H
      obtain ⟨t_8, ht_8, H⟩ := H
      cases t_8 with
      | false =>
        replace H := ite_f H
        replace H := app_hid H
        unfold e0 at H
        replace H := unp2_hid H
        obtain rfl := ret_hid H
        go_wp2_with fail
        go_ret
        have hr_0 := hnout_7l0.out
        replace Oout_7l0 := Lib.hid (own_len hr_0 Oout_7l0.out)
        exact ⟨(some ⟨w.heap.size, 0, none⟩), Nt_3, (by first | (rw [hr_0]; done) | (rw [hr_0]; rfl)), Oout_7l0.out, HBwr0.out⟩
      | true =>
        replace H := ite_t H
        replace H := idx_hid H
        obtain ⟨nt_11, yt_11, et_11, lt_11, gt_11, H⟩ := H
        subst et_11
        have hqt_11 := hnout_7l0.out
        obtain ⟨ab_t_11, ao_t_11, zt_11, At_11, z_t_11, ct_11_0⟩ := Go.Proofs.Ytdgbigkcophjoaa.HelpInt.Ints.at_ (own_cells Oout_7l0.out) (k := nt_11) (by omega)
        obtain rfl := Option.some.inj (gt_11.out.symm.trans z_t_11)
        simp only [Option.some.injEq, Addr.mk.injEq] at At_11
        obtain ⟨rfl, rfl, _⟩ := At_11
        clear z_t_11
        simp only [Nat.zero_add] at ct_11_0
        have b0t_11 : (0 : Int) ≤ (nt_11 : Int) := by omega
        have b1t_11 : (nt_11 : Int) < ((t_3.length : Nat) : Int) := by omega
        have b2t_11 : ((nt_11 : Int)).toNat = nt_11 := by omega
        clear hqt_11
        replace H := let_hid H
        obtain ⟨l12_12, hl12_12, H⟩ := H
        obtain ⟨wl12_12, hwl12_12⟩ : ∃ x, (wr0).setCell ⟨w.heap.size, nt_11, none⟩ (.int .i64 99) = x := ⟨_, rfl⟩
        have z0l12_12 := Oout_7l0.out.frozenAt (nt_11)
        have Sl12_12 := Lib.hid (own_stores [(nt_11, .int .i64 99)] Oout_7l0.out)
        have nl12_12 : Hid (l12_12.length = t_3.length) := Lib.hid (by rw [← hl12_12, List.length_set]; exact hnout_7l0.out)
        have Pl12_12 : Hid (wl12_12.ownsRow w.heap.size 3 1 (.slice (some ⟨w.heap.size, 0, none⟩) t_3.length Nt_3) t_3.length (Go.Proofs.Ytdgbigkcophjoaa.HelpInt.iv l12_12)) := Lib.hid (by have e_ : ([(nt_11, .int .i64 99)] : List (Nat × Value)).foldl (fun xs p => xs.set p.1 p.2) (Go.Proofs.Ytdgbigkcophjoaa.HelpInt.iv out_7l0) = (Go.Proofs.Ytdgbigkcophjoaa.HelpInt.iv l12_12) := (by rw [← hl12_12]; first | done | simp [Go.Proofs.Ytdgbigkcophjoaa.HelpInt.iv, List.map_set]); rw [← hwl12_12, ← e_]; exact Sl12_12.out.1)
        have Gl12_12 : Hid (wr0.grownBy wl12_12 (Value.slice (some ⟨w.heap.size, 0, none⟩) t_3.length Nt_3).ownBlock) := Lib.hid (by rw [← hwl12_12]; exact Sl12_12.out.2)
        have HBwl12_12 := Lib.hid (HBwr0.out.grown Gl12_12.out HBwr0.out.size (fun q hq => (Oout_7l0.out.lt q hq).1))
        have hhl12_12 := Lib.hid hl12_12
        clear hl12_12 Sl12_12
        clear Oout_7l0 Gl12_12
        go_wp2_with fail
        clear z0l12_12 ct_11_0
        go_wp2_with fail
        go_loopg [9] (list.length) (fun m_ v9_ wr => ∃ (k1 : Nat) (out_7l1 : (List Int)), k1 + m_ = list.length ∧ v9_ = .int .i64 (k1 : Int) ∧ Hid (cntK (l1 list year (nt_11 : Int)) m_ k1 (out_7l1) (e1 (fun s' => loopK (l0 list rate year) m0 s' (e0 )) (nt_11 : Int)) = some r) ∧ Hid (Below w.heap.size w wr) ∧ Hid (wr.ownsRow w.heap.size 3 1 (.slice (some ⟨w.heap.size, 0, none⟩) t_3.length Nt_3) t_3.length (Go.Proofs.Ytdgbigkcophjoaa.HelpInt.iv out_7l1)) ∧ Hid (out_7l1.length = t_3.length))
        case atStart => exact ⟨0, _, by omega, rfl, H, HBwl12_12, Pl12_12, Lib.hid (nl12_12.out)⟩
        case round =>
          obtain ⟨k1, out_7l1, hkm1, rfl, H, HBwr1, Oout_7l1, hnout_7l1⟩ := hrel
          rename World => wr1
          cases gk with
          | zero =>
            obtain rfl : k1 = list.length := by omega
            have hc1 : decide (((list.length : Nat) : Int) < ((list.length : Nat) : Int)) = false := by simp
            replace H := cnt_zero H
            unfold e1 at H
            replace H := let_hid H
            obtain ⟨_, rfl, H⟩ := H
            replace H := let_hid H
            obtain ⟨t_60, ht_60, H⟩ := H
            replace H := app_hid H
            go_wp2_with fail
            go_roundg m0
            case measure => omega
            case rel => exact ⟨_, _, rfl, H, HBwr1, Oout_7l1, Lib.hid (hnout_7l1.out)⟩
          | succ m1 =>
            have hlt1 : k1 < list.length := by omega
            have hc1 : decide ((k1 : Int) < ((list.length : Nat) : Int)) = true := by simp; omega
            replace H := cnt_succ H
            unfold l1 at H
            replace H := let_hid H
            obtain ⟨_, rfl, H⟩ := H
            replace H := idx_hid H
            obtain ⟨nt_20, yt_20, et_20, lt_20, gt_20, H⟩ := H
            obtain rfl : k1 = nt_20 := by omega
            clear et_20
            obtain ⟨t_20_id, t_20_face, t_20_color, t_20_year⟩ := yt_20
            replace H := unStamp_hid H
            obtain ⟨ab_t_20, ao_t_20, zt_20, At_20, z_t_20, ct_20_0, ct_20_1, ct_20_2, ct_20_3⟩ := Go.Proofs.Ytdgbigkcophjoaa.HelpStamp.Sts.at_ M0.out lt_20
            obtain rfl := Option.some.inj (gt_20.out.symm.trans z_t_20)
            subst At_20
            have ltt_20 := cell_lt ct_20_0
            replace ct_20_0 := cell_below HBwr1.out ct_20_0
            replace ct_20_1 := cell_below HBwr1.out ct_20_1
            replace ct_20_2 := cell_below HBwr1.out ct_20_2
            replace ct_20_3 := cell_below HBwr1.out ct_20_3
            clear z_t_20
            have b0t_20 : (0 : Int) ≤ (k1 : Int) := by omega
            have b1t_20 : (k1 : Int) < ((list.length : Nat) : Int) := by omega
            have b2t_20 : ((k1 : Int)).toNat = k1 := by omega
            obtain ⟨w_s_22, hw_s_22⟩ : ∃ x, wr1.alloc (.cells #[.int .i64 t_20_id, .int .i64 t_20_face, .int .i64 t_20_color, .int .i64 t_20_year] 73) = x := ⟨_, rfl⟩
            have bw_s_22 : Below wr1.heap.size wr1 w_s_22 := by rw [← hw_s_22]; exact (Below.refl _ _).alloc (Nat.le_refl _) _
            have Ds_22_out_7l1 := Lib.hid (apart_fresh Oout_7l1.out)
            have HBw_s_22 := Lib.hid (Below.step HBwr1.out bw_s_22)
            have ct_20_0__85 := cell_below bw_s_22 ct_20_0
            have ct_20_1__86 := cell_below bw_s_22 ct_20_1
            have ct_20_2__87 := cell_below bw_s_22 ct_20_2
            have ct_20_3__88 := cell_below bw_s_22 ct_20_3
            replace Oout_7l1 := Lib.hid (own_below Oout_7l1.out bw_s_22)
            clear bw_s_22
            have ks_22_0 : w_s_22.cell? ⟨wr1.heap.size, 0, none⟩ = some (.int .i64 t_20_id) := by rw [← hw_s_22]; exact box_new _ _ _ 0 _ rfl
            have ks_22_1 : w_s_22.cell? ⟨wr1.heap.size, 1, none⟩ = some (.int .i64 t_20_face) := by rw [← hw_s_22]; exact box_new _ _ _ 1 _ rfl
            have ks_22_2 : w_s_22.cell? ⟨wr1.heap.size, 2, none⟩ = some (.int .i64 t_20_color) := by rw [← hw_s_22]; exact box_new _ _ _ 2 _ rfl
            have ks_22_3 : w_s_22.cell? ⟨wr1.heap.size, 3, none⟩ = some (.int .i64 t_20_year) := by rw [← hw_s_22]; exact box_new _ _ _ 3 _ rfl
            replace H := let_hid H
            obtain ⟨t_26, ht_26, H⟩ := H
            replace H := join_hid H
            cases t_26 with
            | false =>
              replace H := ite_f H
              replace H := app_hid H
              replace H := join_hid H
              replace H := ite_f H
              replace H := app_hid H
              replace H := ite_f H
              replace H := app_hid H
              go_wp2_with fail
              clear ct_20_0 ct_20_1 ct_20_2 ct_20_3
              go_roundg m1
              case measure => omega
              case rel => exact ⟨k1 + 1, _, by omega, by go_num, H, HBw_s_22, Oout_7l1, Lib.hid (hnout_7l1.out)⟩
            | true =>
              replace H := ite_t H
              replace H := let_hid H
              obtain ⟨t_31, ht_31, H⟩ := H
              replace H := app_hid H
              replace H := join_hid H
              cases t_31 with
              | false =>
                replace H := ite_f H
                replace H := app_hid H
                replace H := ite_f H
                replace H := app_hid H
                go_wp2_with fail
                clear ct_20_0 ct_20_1 ct_20_2 ct_20_3
                go_roundg m1
                case measure => omega
                case rel => exact ⟨k1 + 1, _, by omega, by go_num, H, HBw_s_22, Oout_7l1, Lib.hid (hnout_7l1.out)⟩
              | true =>
                replace H := ite_t H
                replace H := let_hid H
                obtain ⟨t_37, ht_37, H⟩ := H
                replace H := app_hid H
                cases t_37 with
                | false =>
                  replace H := ite_f H
                  replace H := app_hid H
                  go_wp2_with fail
                  clear ct_20_0 ct_20_1 ct_20_2 ct_20_3
                  go_roundg m1
                  case measure => omega
                  case rel => exact ⟨k1 + 1, _, by omega, by go_num, H, HBw_s_22, Oout_7l1, Lib.hid (hnout_7l1.out)⟩
                | true =>
                  replace H := ite_t H
                  go_wp2_with fail
                  clear ct_20_0 ct_20_1 ct_20_2 ct_20_3
                  obtain ⟨Z11, hZ11⟩ : ∃ x, w_s_22.drew = x := ⟨_, rfl⟩
                  have bd11 : Below w_s_22.heap.size w_s_22 Z11 := by rw [← hZ11]; exact (Below.refl _ _).drew
                  have HBZ11 := Lib.hid (Below.step HBw_s_22.out bd11)
                  replace ct_20_0__85 := cell_below bd11 ct_20_0__85
                  replace ct_20_1__86 := cell_below bd11 ct_20_1__86
                  replace ct_20_2__87 := cell_below bd11 ct_20_2__87
                  replace ct_20_3__88 := cell_below bd11 ct_20_3__88
                  replace ks_22_0 := cell_below bd11 ks_22_0
                  replace ks_22_1 := cell_below bd11 ks_22_1
                  replace ks_22_2 := cell_below bd11 ks_22_2
                  replace ks_22_3 := cell_below bd11 ks_22_3
                  replace Oout_7l1 := Lib.hid (own_below Oout_7l1.out bd11)
                  clear bd11
                  replace H := idx_hid H
                  obtain ⟨nt_43, yt_43, et_43, lt_43, gt_43, H⟩ := H
                  obtain rfl : nt_11 = nt_43 := by omega
                  clear et_43
                  have hqt_43 := hnout_7l1.out
                  obtain ⟨ab_t_43, ao_t_43, zt_43, At_43, z_t_43, ct_43_0⟩ := Go.Proofs.Ytdgbigkcophjoaa.HelpInt.Ints.at_ (own_cells Oout_7l1.out) (k := nt_11) (by omega)
                  obtain rfl := Option.some.inj (gt_43.out.symm.trans z_t_43)
                  simp only [Option.some.injEq, Addr.mk.injEq] at At_43
                  obtain ⟨rfl, rfl, _⟩ := At_43
                  clear z_t_43
                  simp only [Nat.zero_add] at ct_43_0
                  have b0t_43 : (0 : Int) ≤ (nt_11 : Int) := by omega
                  have b1t_43 : (nt_11 : Int) < ((t_3.length : Nat) : Int) := by omega
                  have b2t_43 : ((nt_11 : Int)).toNat = nt_11 := by omega
                  clear hqt_43
                  replace H := let_hid H
                  obtain ⟨t_49, ht_49, H⟩ := H
                  replace H := idx_hid H
                  obtain ⟨nt_50, yt_50, et_50, lt_50, gt_50, H⟩ := H
                  subst et_50
                  have hqt_50 := hnout_7l1.out
                  obtain ⟨ab_t_50, ao_t_50, zt_50, At_50, z_t_50, ct_50_0⟩ := Go.Proofs.Ytdgbigkcophjoaa.HelpInt.Ints.at_ (own_cells Oout_7l1.out) (k := nt_50) (by omega)
                  obtain rfl := Option.some.inj (gt_50.out.symm.trans z_t_50)
                  simp only [Option.some.injEq, Addr.mk.injEq] at At_50
                  obtain ⟨rfl, rfl, _⟩ := At_50
                  clear z_t_50
                  simp only [Nat.zero_add] at ct_50_0
                  have b0t_50 : (0 : Int) ≤ (nt_50 : Int) := by omega
                  have b1t_50 : (nt_50 : Int) < ((t_3.length : Nat) : Int) := by omega
                  have b2t_50 : ((nt_50 : Int)).toNat = nt_50 := by omega
                  clear hqt_50
                  replace H := let_hid H
                  obtain ⟨t_52, ht_52, H⟩ := H
                  replace H := bind_hid H
                  obtain ⟨t_53, qt_53, H⟩ := H
                  replace H := idx_hid H
                  obtain ⟨nt_54, yt_54, et_54, lt_54, gt_54, H⟩ := H
                  obtain rfl : nt_11 = nt_54 := by omega
                  clear et_54
                  obtain rfl := Option.some.inj (gt_43.out.symm.trans gt_54.out)
                  clear gt_54 lt_54
                  refine wp_region_still_tail 16 (by kernel_rfl) (by kernel_rfl) ?_
                  simp only [List.take_succ_cons, List.take_zero, List.drop_succ_cons, List.drop_zero]
                  change wpStill _ _ w_s_22.drew _ _ _
                  rw [hZ11]
                  still_step
                  still_step
                  still_step
                  still_step
                  still_step
                  still_step
                  still_step
                  still_step
                  still_step
                  still_step
                  still_step
                  still_step
                  still_step
                  still_step
                  still_call (Go.Proofs.Ytdgbigkcophjoaa.GsL1Least.C0 (yt_43) (t_52)  _    qt_53)
                  still_step
                  refine wpStill_nil ?_
                  change wpList _ _ _ _ _ w_s_22.drew
                  rw [hZ11]
                  clear hZ11
                  replace H := let_hid H
                  obtain ⟨l55_55, hl55_55, H⟩ := H
                  obtain ⟨wl55_55, hwl55_55⟩ : ∃ x, (Z11).setCell ⟨w.heap.size, nt_11, none⟩ (.int .i64 t_53) = x := ⟨_, rfl⟩
                  have z0l55_55 := Oout_7l1.out.frozenAt (nt_11)
                  have Sl55_55 := Lib.hid (own_stores [(nt_11, .int .i64 t_53)] Oout_7l1.out)
                  have nl55_55 : Hid (l55_55.length = t_3.length) := Lib.hid (by rw [← hl55_55, List.length_set]; exact hnout_7l1.out)
                  have Pl55_55 : Hid (wl55_55.ownsRow w.heap.size 3 1 (.slice (some ⟨w.heap.size, 0, none⟩) t_3.length Nt_3) t_3.length (Go.Proofs.Ytdgbigkcophjoaa.HelpInt.iv l55_55)) := Lib.hid (by have e_ : ([(nt_11, .int .i64 t_53)] : List (Nat × Value)).foldl (fun xs p => xs.set p.1 p.2) (Go.Proofs.Ytdgbigkcophjoaa.HelpInt.iv out_7l1) = (Go.Proofs.Ytdgbigkcophjoaa.HelpInt.iv l55_55) := (by rw [← hl55_55]; first | done | simp [Go.Proofs.Ytdgbigkcophjoaa.HelpInt.iv, List.map_set]); rw [← hwl55_55, ← e_]; exact Sl55_55.out.1)
                  have Gl55_55 : Hid (Z11.grownBy wl55_55 (Value.slice (some ⟨w.heap.size, 0, none⟩) t_3.length Nt_3).ownBlock) := Lib.hid (by rw [← hwl55_55]; exact Sl55_55.out.2)
                  have HBwl55_55 := Lib.hid (HBZ11.out.grown Gl55_55.out HBZ11.out.size (fun q hq => (Oout_7l1.out.lt q hq).1))
                  have hhl55_55 := Lib.hid hl55_55
                  clear hl55_55 Sl55_55
                  have ct_20_0__89 := cell_other ct_20_0__85 Gl55_55.out (apart_old Oout_7l1.out ltt_20)
                  have ct_20_1__90 := cell_other ct_20_1__86 Gl55_55.out (apart_old Oout_7l1.out ltt_20)
                  have ct_20_2__91 := cell_other ct_20_2__87 Gl55_55.out (apart_old Oout_7l1.out ltt_20)
                  have ct_20_3__92 := cell_other ct_20_3__88 Gl55_55.out (apart_old Oout_7l1.out ltt_20)
                  have ks_22_0__93 := cell_other ks_22_0 Gl55_55.out (Apart.symm Ds_22_out_7l1.out)
                  have ks_22_1__94 := cell_other ks_22_1 Gl55_55.out (Apart.symm Ds_22_out_7l1.out)
                  have ks_22_2__95 := cell_other ks_22_2 Gl55_55.out (Apart.symm Ds_22_out_7l1.out)
                  have ks_22_3__96 := cell_other ks_22_3 Gl55_55.out (Apart.symm Ds_22_out_7l1.out)
                  clear Oout_7l1 Gl55_55
                  replace H := app_hid H
                  go_wp2_with fail
                  clear z0l55_55 ct_20_0__85 ct_20_1__86 ct_20_2__87 ct_20_3__88 ks_22_0 ks_22_1 ks_22_2 ks_22_3 ct_43_0 ct_50_0
                  go_roundg m1
                  case measure => omega
                  case rel => exact ⟨k1 + 1, _, by omega, by go_num, H, HBwl55_55, Pl55_55, Lib.hid (nl55_55.out)⟩
end Go.Proofs.Ytdgbigkcophjoaa.GsL2Needed
