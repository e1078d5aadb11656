/- loop.example/g01062/impl.fewestByValue as a plain function, and the contract of the program's: where the plain one has an answer, the program has it. Conditions: slices read as lists. -/
import Derived.Test.YtdgbigkcophjoaaChecked
import Derived.Test.YtdgbigkcophjoaaGoM
import Derived.Test.YtdgbigkcophjoaaGoRStamp
import Derived.Test.YtdgbigkcophjoaaHelpInt
import Derived.Test.YtdgbigkcophjoaaHelpStamp
import Derived.WalkKit
import Derived.WalkSpells
import Derived.WalkLawsBesides
import Derived.BigQuiet
import Derived.OwnWalk
import Derived.Deep.LoopGhost
import Derived.Deep.QuietTactic
import Derived.IntWalk
import Derived.Lib.QuietBelow
import Derived.StillTailTactics
namespace Go.Proofs.Ytdgbigkcophjoaa.GiFewestByValue
set_option linter.unusedVariables false
set_option linter.unusedSimpArgs false
open Go.RowKit
open Go.Proofs.Ytdgbigkcophjoaa.Rowed Go.Proofs.Ytdgbigkcophjoaa.Turn Go.Proofs.Ytdgbigkcophjoaa.Aid Go.Proofs.Ytdgbigkcophjoaa.GoP Go.Proofs.Ytdgbigkcophjoaa.GoM

def l1 (list : (List Go.Proofs.Ytdgbigkcophjoaa.PlainStamp.St)) (year : Int) (value_8l0 : Int) (k1 : Nat) (s : (List Int)) (nx1 bk1 : (List Int) → Option ((List Int))) : Option ((List Int)) :=
  letK s fun fewest_7l1 =>
  Option.bind (idx list (k1 : Int)) fun (yt_17 : Go.Proofs.Ytdgbigkcophjoaa.PlainStamp.St) =>
  unStamp yt_17 fun (t_17_id : Int) (t_17_face : Int) (t_17_color : Int) (t_17_year : Int) =>
  letK (decide (t_17_year ≤ year)) fun (t_24 : Bool) =>
  joinK (fun (t_30 : Bool) =>
  iteK t_30
  (Option.bind (idx fewest_7l1 value_8l0) fun (yt_35 : Int) =>
  letK (IntKind.i64.wrap (value_8l0 - t_17_face)) fun (t_41 : Int) =>
  Option.bind (idx fewest_7l1 t_41) fun (yt_42 : Int) =>
  letK (IntKind.i64.wrap (yt_42 + 1)) fun (t_44 : Int) =>
  letK (min yt_35 t_44) fun (t_45 : Int) =>
  Option.bind (idx fewest_7l1 value_8l0) fun (yt_46 : Int) =>
  letK (fewest_7l1.set (value_8l0).toNat t_45) fun (l47_47 : (List Int)) =>
  appK nx1 (l47_47))
  (appK nx1 (fewest_7l1))) fun jt_30 => iteK t_24 (letK (decide (t_17_face ≤ value_8l0)) fun (t_29 : Bool) =>
  appK jt_30 t_29) (appK jt_30 false)

def e1 (nx0 : ((List Int) × Int) → Option ((List Int))) (value_8l0 : Int) (s : (List Int)) : Option ((List Int)) :=
  letK s fun fewest_7l1 =>
  letK (IntKind.i64.wrap (value_8l0 + 1)) fun (t_51 : Int) =>
  appK nx0 (fewest_7l1, t_51)

def l0 (list : (List Go.Proofs.Ytdgbigkcophjoaa.PlainStamp.St)) (year : Int) (most : Int) (s : (List Int) × Int) (nx0 bk0 : (List Int) × Int → Option ((List Int))) : Option ((List Int)) :=
  unp2 s fun fewest_7l0 value_8l0 =>
  letK (decide (value_8l0 ≤ most)) fun (t_8 : Bool) =>
  iteK t_8
  (Option.bind (idx fewest_7l0 value_8l0) fun (yt_11 : Int) =>
  letK (fewest_7l0.set (value_8l0).toNat 12000) fun (l12_12 : (List Int)) =>
  cntK (l1 list year value_8l0) (list.length) 0 (l12_12) (e1 nx0 value_8l0))
  (appK bk0 (fewest_7l0, value_8l0))

def e0  (s : (List Int) × Int) : Option ((List Int)) :=
  unp2 s fun fewest_7l0 value_8l0 =>
  some fewest_7l0

def P (fuel : Nat) (list : (List Go.Proofs.Ytdgbigkcophjoaa.PlainStamp.St)) (year : Int) (most : Int) : Option ((List Int)) :=
  letK (IntKind.i64.wrap (most + 1)) fun (t_2 : Int) =>
  guardK (0 ≤ t_2 ∧ t_2 ≤ 1099511627776) <|
  letK (List.replicate (t_2).toNat 0) fun (t_3 : (List Int)) =>
  loopK (l0 list year most) fuel (t_3, 1) (e0 )

set_option maxRecDepth 100000 in
set_option maxHeartbeats 2000000 in
theorem C (fuel : Nat) (list : (List Go.Proofs.Ytdgbigkcophjoaa.PlainStamp.St)) (year : Int) (most : Int) (A0 : Option Addr) (c0 : Nat)  (w : World) (M0 : Hid (Cells w 4 A0 list.length (Go.Proofs.Ytdgbigkcophjoaa.PlainStamp.flat list))) (N0 : Hid (list.length ≤ 9223372036854775807))  {r : (List Int)} (H : Hid (P fuel list year most = some r)) :
    Calls Try.prog 72 #[.slice A0 list.length c0, .int .i64 year, .int .i64 most] w (fun e w' => ∃ A_r c_r, e = .returned (.slice A_r r.length c_r) ∧ w'.ownsRow w.heap.size 3 1 (.slice A_r r.length c_r) r.length (Go.Proofs.Ytdgbigkcophjoaa.HelpInt.iv r) ∧ Below w.heap.size w w') := by
  have HB := Lib.hid (Below.refl w.heap.size w)
  unfold P at H
  have N0o := N0.out
  obtain ⟨i0_3, hi_3, hz0_3, hz1_3, hz2_3⟩ := Aid.info_parts (P := Try.prog) (T := 3) (z := .int .i64 0) (s := 1) (b := 8) (by kernel_rfl)
  go_enter Try.func72, Try.ntmps72
  replace H := let_hid H
  obtain ⟨t_2, ht_2, H⟩ := H
  replace H := guard_hid H
  obtain ⟨hnt_3, H⟩ := H
  obtain ⟨Nt_3, eNt_3⟩ : ∃ N : Nat, t_2 = (N : Int) := ⟨(t_2).toNat, by omega⟩
  subst eNt_3
  replace H := let_hid H
  obtain ⟨t_3, ht_3, H⟩ := H
  simp only [Int.toNat_natCast] at ht_3
  have hst_3 := HB.out.size
  have hlt_3 : t_3.length = Nt_3 := by rw [← ht_3]; simp
  have hht_3 := Lib.hid ht_3
  clear ht_3
  go_wp2_with (at_make; refine wpList_make_full _ rfl _ _ 29 rfl w.heap.size 3 i0_3 (.int .i64 0) 1 Try.underlying29 hi_3 hz0_3 hz1_3 .i64 .i64 _ _ Nt_3 rfl rfl (by omega) (by omega) (by rw [hz2_3]; omega) (by unfold maxLen; omega) hst_3 ?_; intro wt_3 ot_3 gt_3; have Qt_3 := Lib.hid ot_3; have Gt_3 := Lib.hid gt_3; clear ot_3 gt_3; refine stop_in ?_)
  refine stop_out ?_
  have hv_ : (Value.slice (some ⟨w.heap.size, 0, none⟩) Nt_3 Nt_3 : Value) = Value.slice (some ⟨w.heap.size, 0, none⟩) t_3.length Nt_3 := by rw [hlt_3]
  rw [hv_]
  clear hv_
  have Et_3 : (Go.Proofs.Ytdgbigkcophjoaa.HelpInt.iv t_3) = (madeCells (.int .i64 0 : Value).cells (Nt_3 * 1)).toList := by
    rw [made_flat (fun x => [.int .i64 x]) 0 _ 1 _ rfl rfl (by decide), ← hht_3.out]
    exact map_flat _ _
  have Pt_3 : Hid (wt_3.ownsRow w.heap.size 3 1 (.slice (some ⟨w.heap.size, 0, none⟩) Nt_3 Nt_3) Nt_3 (Go.Proofs.Ytdgbigkcophjoaa.HelpInt.iv t_3)) := Lib.hid (by rw [Et_3]; exact Qt_3.out)
  clear Et_3
  replace hlt_3 := Lib.hid hlt_3
  clear Qt_3 hst_3
  have bt_3 : Below w.heap.size w wt_3 := (Below.refl _ _).grown Gt_3.out (Nat.le_refl _) (by simp)
  clear Gt_3
  have HBwt_3 := Lib.hid (Below.step HB.out bt_3)
  clear bt_3
  replace Pt_3 := Lib.hid (own_len hlt_3.out Pt_3.out)
  go_wp2_with fail
  go_wp2_with fail
  go_loopg [8] (fuel) (fun m_ v8_ wr => ∃ (fewest_7l0 : (List Int)) (value_8l0 : Int), v8_ = .int .i64 value_8l0 ∧ Hid (loopK (l0 list year most) m_ (fewest_7l0, value_8l0) (e0 ) = some r) ∧ Hid (Below w.heap.size w wr) ∧ Hid (wr.ownsRow w.heap.size 3 1 (.slice (some ⟨w.heap.size, 0, none⟩) t_3.length Nt_3) t_3.length (Go.Proofs.Ytdgbigkcophjoaa.HelpInt.iv fewest_7l0)) ∧ Hid (fewest_7l0.length = t_3.length))
  case atStart => exact ⟨_, _, rfl, H, HBwt_3, Pt_3, Lib.hid (rfl)⟩
  case round =>
    obtain ⟨fewest_7l0, value_8l0, rfl, H, HBwr0, Ofewest_7l0, hnfewest_7l0⟩ := hrel
    rename World => wr0
    cases gk with
    | zero => exact (loop_zero H).elim
    | succ m0 =>
      replace H := loop_succ H
      unfold l0 at H
      replace H := unp2_hid H
      replace H := let_hid H
      obtain ⟨t_8, ht_8, H⟩ := H
      cases t_8 with
      | false =>
        replace H := ite_f H
        replace H := app_hid H
        unfold e0 at H
        replace H := unp2_hid H
        obtain rfl := ret_hid H
        go_wp2_with fail
        go_ret
        have hr_0 := hnfewest_7l0.out
        replace Ofewest_7l0 := Lib.hid (own_len hr_0 Ofewest_7l0.out)
        exact ⟨(some ⟨w.heap.size, 0, none⟩), Nt_3, (by first | (rw [hr_0]; done) | (rw [hr_0]; rfl)), Ofewest_7l0.out, HBwr0.out⟩
      | true =>
        replace H := ite_t H
        replace H := idx_hid H
        obtain ⟨nt_11, yt_11, et_11, lt_11, gt_11, H⟩ := H
        subst et_11
        have hqt_11 := hnfewest_7l0.out
        obtain ⟨ab_t_11, ao_t_11, zt_11, At_11, z_t_11, ct_11_0⟩ := Go.Proofs.Ytdgbigkcophjoaa.HelpInt.Ints.at_ (own_cells Ofewest_7l0.out) (k := nt_11) (by omega)
        obtain rfl := Option.some.inj (gt_11.out.symm.trans z_t_11)
        simp only [Option.some.injEq, Addr.mk.injEq] at At_11
        obtain ⟨rfl, rfl, _⟩ := At_11
        clear z_t_11
        simp only [Nat.zero_add] at ct_11_0
        have b0t_11 : (0 : Int) ≤ (nt_11 : Int) := by omega
        have b1t_11 : (nt_11 : Int) < ((t_3.length : Nat) : Int) := by omega
        have b2t_11 : ((nt_11 : Int)).toNat = nt_11 := by omega
        clear hqt_11
        replace H := let_hid H
        obtain ⟨l12_12, hl12_12, H⟩ := H
        obtain ⟨wl12_12, hwl12_12⟩ : ∃ x, (wr0).setCell ⟨w.heap.size, nt_11, none⟩ (.int .i64 12000) = x := ⟨_, rfl⟩
        have z0l12_12 := Ofewest_7l0.out.frozenAt (nt_11)
        have Sl12_12 := Lib.hid (own_stores [(nt_11, .int .i64 12000)] Ofewest_7l0.out)
        have nl12_12 : Hid (l12_12.length = t_3.length) := Lib.hid (by rw [← hl12_12, List.length_set]; exact hnfewest_7l0.out)
        have Pl12_12 : Hid (wl12_12.ownsRow w.heap.size 3 1 (.slice (some ⟨w.heap.size, 0, none⟩) t_3.length Nt_3) t_3.length (Go.Proofs.Ytdgbigkcophjoaa.HelpInt.iv l12_12)) := Lib.hid (by have e_ : ([(nt_11, .int .i64 12000)] : List (Nat × Value)).foldl (fun xs p => xs.set p.1 p.2) (Go.Proofs.Ytdgbigkcophjoaa.HelpInt.iv fewest_7l0) = (Go.Proofs.Ytdgbigkcophjoaa.HelpInt.iv l12_12) := (by rw [← hl12_12]; first | done | simp [Go.Proofs.Ytdgbigkcophjoaa.HelpInt.iv, List.map_set]); rw [← hwl12_12, ← e_]; exact Sl12_12.out.1)
        have Gl12_12 : Hid (wr0.grownBy wl12_12 (Value.slice (some ⟨w.heap.size, 0, none⟩) t_3.length Nt_3).ownBlock) := Lib.hid (by rw [← hwl12_12]; exact Sl12_12.out.2)
        have HBwl12_12 := Lib.hid (HBwr0.out.grown Gl12_12.out HBwr0.out.size (fun q hq => (Ofewest_7l0.out.lt q hq).1))
        have hhl12_12 := Lib.hid hl12_12
        clear hl12_12 Sl12_12
        clear Ofewest_7l0 Gl12_12
        go_wp2_with fail
        clear z0l12_12 ct_11_0
        go_wp2_with fail
        go_loopg [24] (list.length) (fun m_ v24_ wr => ∃ (k1 : Nat) (fewest_7l1 : (List Int)), k1 + m_ = list.length ∧ v24_ = .int .i64 (k1 : Int) ∧ Hid (cntK (l1 list year (nt_11 : Int)) m_ k1 (fewest_7l1) (e1 (fun s' => loopK (l0 list year most) m0 s' (e0 )) (nt_11 : Int)) = some r) ∧ Hid (Below w.heap.size w wr) ∧ Hid (wr.ownsRow w.heap.size 3 1 (.slice (some ⟨w.heap.size, 0, none⟩) t_3.length Nt_3) t_3.length (Go.Proofs.Ytdgbigkcophjoaa.HelpInt.iv fewest_7l1)) ∧ Hid (fewest_7l1.length = t_3.length))
        case atStart => exact ⟨0, _, by omega, rfl, H, HBwl12_12, Pl12_12, Lib.hid (nl12_12.out)⟩
        case round =>
          obtain ⟨k1, fewest_7l1, hkm1, rfl, H, HBwr1, Ofewest_7l1, hnfewest_7l1⟩ := hrel
          rename World => wr1
          cases gk with
          | zero =>
            obtain rfl : k1 = list.length := by omega
            have hc1 : decide (((list.length : Nat) : Int) < ((list.length : Nat) : Int)) = false := by simp
            replace H := cnt_zero H
            unfold e1 at H
            replace H := let_hid H
            obtain ⟨_, rfl, H⟩ := H
            replace H := let_hid H
            obtain ⟨t_51, ht_51, H⟩ := H
            replace H := app_hid H
            go_wp2_with fail
            go_roundg m0
            case measure => omega
            case rel => exact ⟨_, _, rfl, H, HBwr1, Ofewest_7l1, Lib.hid (hnfewest_7l1.out)⟩
          | succ m1 =>
            have hlt1 : k1 < list.length := by omega
            have hc1 : decide ((k1 : Int) < ((list.length : Nat) : Int)) = true := by simp; omega
            replace H := cnt_succ H
            unfold l1 at H
            replace H := let_hid H
            obtain ⟨_, rfl, H⟩ := H
            replace H := idx_hid H
            obtain ⟨nt_17, yt_17, et_17, lt_17, gt_17, H⟩ := H
            obtain rfl : k1 = nt_17 := by omega
            clear et_17
            obtain ⟨t_17_id, t_17_face, t_17_color, t_17_year⟩ := yt_17
            replace H := unStamp_hid H
            obtain ⟨ab_t_17, ao_t_17, zt_17, At_17, z_t_17, ct_17_0, ct_17_1, ct_17_2, ct_17_3⟩ := Go.Proofs.Ytdgbigkcophjoaa.HelpStamp.Sts.at_ M0.out lt_17
            obtain rfl := Option.some.inj (gt_17.out.symm.trans z_t_17)
            subst At_17
            have ltt_17 := cell_lt ct_17_0
            replace ct_17_0 := cell_below HBwr1.out ct_17_0
            replace ct_17_1 := cell_below HBwr1.out ct_17_1
            replace ct_17_2 := cell_below HBwr1.out ct_17_2
            replace ct_17_3 := cell_below HBwr1.out ct_17_3
            clear z_t_17
            have b0t_17 : (0 : Int) ≤ (k1 : Int) := by omega
            have b1t_17 : (k1 : Int) < ((list.length : Nat) : Int) := by omega
            have b2t_17 : ((k1 : Int)).toNat = k1 := by omega
            obtain ⟨w_s_19, hw_s_19⟩ : ∃ x, wr1.alloc (.cells #[.int .i64 t_17_id, .int .i64 t_17_face, .int .i64 t_17_color, .int .i64 t_17_year] 73) = x := ⟨_, rfl⟩
            have bw_s_19 : Below wr1.heap.size wr1 w_s_19 := by rw [← hw_s_19]; exact (Below.refl _ _).alloc (Nat.le_refl _) _
            have Ds_19_fewest_7l1 := Lib.hid (apart_fresh Ofewest_7l1.out)
            have HBw_s_19 := Lib.hid (Below.step HBwr1.out bw_s_19)
            have ct_17_0__111 := cell_below bw_s_19 ct_17_0
            have ct_17_1__112 := cell_below bw_s_19 ct_17_1
            have ct_17_2__113 := cell_below bw_s_19 ct_17_2
            have ct_17_3__114 := cell_below bw_s_19 ct_17_3
            replace Ofewest_7l1 := Lib.hid (own_below Ofewest_7l1.out bw_s_19)
            clear bw_s_19
            have ks_19_0 : w_s_19.cell? ⟨wr1.heap.size, 0, none⟩ = some (.int .i64 t_17_id) := by rw [← hw_s_19]; exact box_new _ _ _ 0 _ rfl
            have ks_19_1 : w_s_19.cell? ⟨wr1.heap.size, 1, none⟩ = some (.int .i64 t_17_face) := by rw [← hw_s_19]; exact box_new _ _ _ 1 _ rfl
            have ks_19_2 : w_s_19.cell? ⟨wr1.heap.size, 2, none⟩ = some (.int .i64 t_17_color) := by rw [← hw_s_19]; exact box_new _ _ _ 2 _ rfl
            have ks_19_3 : w_s_19.cell? ⟨wr1.heap.size, 3, none⟩ = some (.int .i64 t_17_year) := by rw [← hw_s_19]; exact box_new _ _ _ 3 _ rfl
            replace H := let_hid H
            obtain ⟨t_24, ht_24, H⟩ := H
            replace H := join_hid H
            cases t_24 with
            | false =>
              replace H := ite_f H
              replace H := app_hid H
              replace H := ite_f H
              replace H := app_hid H
              go_wp2_with fail
              clear ct_17_0 ct_17_1 ct_17_2 ct_17_3
              go_roundg m1
              case measure => omega
              case rel => exact ⟨k1 + 1, _, by omega, by go_num, H, HBw_s_19, Ofewest_7l1, Lib.hid (hnfewest_7l1.out)⟩
            | true =>
              replace H := ite_t H
              replace H := let_hid H
              obtain ⟨t_29, ht_29, H⟩ := H
              replace H := app_hid H
              cases t_29 with
              | false =>
                replace H := ite_f H
                replace H := app_hid H
                go_wp2_with fail
                clear ct_17_0 ct_17_1 ct_17_2 ct_17_3
                go_roundg m1
                case measure => omega
                case rel => exact ⟨k1 + 1, _, by omega, by go_num, H, HBw_s_19, Ofewest_7l1, Lib.hid (hnfewest_7l1.out)⟩
              | true =>
                replace H := ite_t H
                go_wp2_with fail
                clear ct_17_0 ct_17_1 ct_17_2 ct_17_3
                obtain ⟨Z10, hZ10⟩ : ∃ x, w_s_19.drew = x := ⟨_, rfl⟩
                have bd10 : Below w_s_19.heap.size w_s_19 Z10 := by rw [← hZ10]; exact (Below.refl _ _).drew
                have HBZ10 := Lib.hid (Below.step HBw_s_19.out bd10)
                replace ct_17_0__111 := cell_below bd10 ct_17_0__111
                replace ct_17_1__112 := cell_below bd10 ct_17_1__112
                replace ct_17_2__113 := cell_below bd10 ct_17_2__113
                replace ct_17_3__114 := cell_below bd10 ct_17_3__114
                replace ks_19_0 := cell_below bd10 ks_19_0
                replace ks_19_1 := cell_below bd10 ks_19_1
                replace ks_19_2 := cell_below bd10 ks_19_2
                replace ks_19_3 := cell_below bd10 ks_19_3
                replace Ofewest_7l1 := Lib.hid (own_below Ofewest_7l1.out bd10)
                clear bd10
                replace H := idx_hid H
                obtain ⟨nt_35, yt_35, et_35, lt_35, gt_35, H⟩ := H
                obtain rfl : nt_11 = nt_35 := by omega
                clear et_35
                have hqt_35 := hnfewest_7l1.out
                obtain ⟨ab_t_35, ao_t_35, zt_35, At_35, z_t_35, ct_35_0⟩ := Go.Proofs.Ytdgbigkcophjoaa.HelpInt.Ints.at_ (own_cells Ofewest_7l1.out) (k := nt_11) (by omega)
                obtain rfl := Option.some.inj (gt_35.out.symm.trans z_t_35)
                simp only [Option.some.injEq, Addr.mk.injEq] at At_35
                obtain ⟨rfl, rfl, _⟩ := At_35
                clear z_t_35
                simp only [Nat.zero_add] at ct_35_0
                have b0t_35 : (0 : Int) ≤ (nt_11 : Int) := by omega
                have b1t_35 : (nt_11 : Int) < ((t_3.length : Nat) : Int) := by omega
                have b2t_35 : ((nt_11 : Int)).toNat = nt_11 := by omega
                clear hqt_35
                replace H := let_hid H
                obtain ⟨t_41, ht_41, H⟩ := H
                replace H := idx_hid H
                obtain ⟨nt_42, yt_42, et_42, lt_42, gt_42, H⟩ := H
                subst et_42
                have hqt_42 := hnfewest_7l1.out
                obtain ⟨ab_t_42, ao_t_42, zt_42, At_42, z_t_42, ct_42_0⟩ := Go.Proofs.Ytdgbigkcophjoaa.HelpInt.Ints.at_ (own_cells Ofewest_7l1.out) (k := nt_42) (by omega)
                obtain rfl := Option.some.inj (gt_42.out.symm.trans z_t_42)
                simp only [Option.some.injEq, Addr.mk.injEq] at At_42
                obtain ⟨rfl, rfl, _⟩ := At_42
                clear z_t_42
                simp only [Nat.zero_add] at ct_42_0
                have b0t_42 : (0 : Int) ≤ (nt_42 : Int) := by omega
                have b1t_42 : (nt_42 : Int) < ((t_3.length : Nat) : Int) := by omega
                have b2t_42 : ((nt_42 : Int)).toNat = nt_42 := by omega
                clear hqt_42
                replace H := let_hid H
                obtain ⟨t_44, ht_44, H⟩ := H
                replace H := let_hid H
                obtain ⟨t_45, ht_45, H⟩ := H
                replace H := idx_hid H
                obtain ⟨nt_46, yt_46, et_46, lt_46, gt_46, H⟩ := H
                obtain rfl : nt_11 = nt_46 := by omega
                clear et_46
                obtain rfl := Option.some.inj (gt_35.out.symm.trans gt_46.out)
                clear gt_46 lt_46
                refine wp_region_still_tail 16 (by kernel_rfl) (by kernel_rfl) ?_
                simp only [List.take_succ_cons, List.take_zero, List.drop_succ_cons, List.drop_zero]
                change wpStill _ _ w_s_19.drew _ _ _
                rw [hZ10]
                repeat still_step
                refine wpStill_nil ?_
                change wpList _ _ _ _ _ w_s_19.drew
                rw [hZ10]
                clear hZ10
                replace H := let_hid H
                obtain ⟨l47_47, hl47_47, H⟩ := H
                obtain ⟨wl47_47, hwl47_47⟩ : ∃ x, (Z10).setCell ⟨w.heap.size, nt_11, none⟩ (.int .i64 t_45) = x := ⟨_, rfl⟩
                have z0l47_47 := Ofewest_7l1.out.frozenAt (nt_11)
                have Sl47_47 := Lib.hid (own_stores [(nt_11, .int .i64 t_45)] Ofewest_7l1.out)
                have nl47_47 : Hid (l47_47.length = t_3.length) := Lib.hid (by rw [← hl47_47, List.length_set]; exact hnfewest_7l1.out)
                have Pl47_47 : Hid (wl47_47.ownsRow w.heap.size 3 1 (.slice (some ⟨w.heap.size, 0, none⟩) t_3.length Nt_3) t_3.length (Go.Proofs.Ytdgbigkcophjoaa.HelpInt.iv l47_47)) := Lib.hid (by have e_ : ([(nt_11, .int .i64 t_45)] : List (Nat × Value)).foldl (fun xs p => xs.set p.1 p.2) (Go.Proofs.Ytdgbigkcophjoaa.HelpInt.iv fewest_7l1) = (Go.Proofs.Ytdgbigkcophjoaa.HelpInt.iv l47_47) := (by rw [← hl47_47]; first | done | simp [Go.Proofs.Ytdgbigkcophjoaa.HelpInt.iv, List.map_set]); rw [← hwl47_47, ← e_]; exact Sl47_47.out.1)
                have Gl47_47 : Hid (Z10.grownBy wl47_47 (Value.slice (some ⟨w.heap.size, 0, none⟩) t_3.length Nt_3).ownBlock) := Lib.hid (by rw [← hwl47_47]; exact Sl47_47.out.2)
                have HBwl47_47 := Lib.hid (HBZ10.out.grown Gl47_47.out HBZ10.out.size (fun q hq => (Ofewest_7l1.out.lt q hq).1))
                have hhl47_47 := Lib.hid hl47_47
                clear hl47_47 Sl47_47
                have ct_17_0__115 := cell_other ct_17_0__111 Gl47_47.out (apart_old Ofewest_7l1.out ltt_17)
                have ct_17_1__116 := cell_other ct_17_1__112 Gl47_47.out (apart_old Ofewest_7l1.out ltt_17)
                have ct_17_2__117 := cell_other ct_17_2__113 Gl47_47.out (apart_old Ofewest_7l1.out ltt_17)
                have ct_17_3__118 := cell_other ct_17_3__114 Gl47_47.out (apart_old Ofewest_7l1.out ltt_17)
                have ks_19_0__119 := cell_other ks_19_0 Gl47_47.out (Apart.symm Ds_19_fewest_7l1.out)
                have ks_19_1__120 := cell_other ks_19_1 Gl47_47.out (Apart.symm Ds_19_fewest_7l1.out)
                have ks_19_2__121 := cell_other ks_19_2 Gl47_47.out (Apart.symm Ds_19_fewest_7l1.out)
                have ks_19_3__122 := cell_other ks_19_3 Gl47_47.out (Apart.symm Ds_19_fewest_7l1.out)
                clear Ofewest_7l1 Gl47_47
                replace H := app_hid H
                go_wp2_with fail
                clear z0l47_47 ct_17_0__111 ct_17_1__112 ct_17_2__113 ct_17_3__114 ks_19_0 ks_19_1 ks_19_2 ks_19_3 ct_35_0 ct_42_0
                go_roundg m1
                case measure => omega
                case rel => exact ⟨k1 + 1, _, by omega, by go_num, H, HBwl47_47, Pl47_47, Lib.hid (nl47_47.out)⟩
end Go.Proofs.Ytdgbigkcophjoaa.GiFewestByValue
