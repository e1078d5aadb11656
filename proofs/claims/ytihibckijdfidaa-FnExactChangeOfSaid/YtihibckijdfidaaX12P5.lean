/- Texts on which the proofs of several laws stand, one behind the other (5 of 24). No condition of their own. -/
import Derived.Test.YtihibckijdfidaaChecked
import Derived.Test.YtihibckijdfidaaX12P1
import Derived.Test.YtihibckijdfidaaX12P4
import Derived.WalkKit
import Derived.WalkSpells
import Derived.WalkLawsBesides
import Derived.BigQuiet
import Derived.OwnWalk
import Derived.Deep.LoopGhost
import Derived.Deep.QuietTactic
import Derived.IntWalk
import Derived.Lib.QuietBelow
import Derived.Deep.RegionHeld3
import Derived.Lib.RowBridge
import Derived.Sort.EncStr
set_option linter.unusedVariables false
set_option linter.unusedSimpArgs false
namespace Go.Proofs.Ytihibckijdfidaa.GsL1Put
open Go.RowKit
open Go.Proofs.Ytihibckijdfidaa.Rowed Go.Proofs.Ytihibckijdfidaa.Turn Go.Proofs.Ytihibckijdfidaa.Aid Go.Proofs.Ytihibckijdfidaa.GoP Go.Proofs.Ytihibckijdfidaa.GoM

def l0 (l : (List Int)) (n_1 : Int) (s : Int) (nx0 bk0 : Int → Option ((List Int))) : Option ((List Int)) :=
  letK s fun k_5l0 =>
  letK (decide (k_5l0 < (l.length : Int))) fun (t_5 : Bool) =>
  joinK (fun (t_13 : Bool) =>
  iteK t_13
  (letK (IntKind.i64.wrap (k_5l0 + 1)) fun (t_15 : Int) =>
  appK nx0 (t_15))
  (appK bk0 (k_5l0))) fun jt_13 => iteK t_5 (Option.bind (idx l k_5l0) fun (yt_9 : Int) =>
  letK (decide (yt_9 < n_1)) fun (t_12 : Bool) =>
  appK jt_13 t_12) (appK jt_13 false)

def e0 (l : (List Int)) (n_1 : Int) (s : Int) : Option ((List Int)) :=
  letK s fun k_5l0 =>
  letK (decide (k_5l0 < (l.length : Int))) fun (t_20 : Bool) =>
  joinK (fun (t_28 : Bool) =>
  iteK t_28
  (some l)
  (guardK ((0 : Int) ≤ k_5l0 ∧ (k_5l0 : Int) ≤ (l.length : Int)) <|
  letK (List.take (Int.toNat k_5l0) l) fun (t_34 : (List Int)) =>
  guardK (([] : List Int).length + t_34.length ≤ 1099511627776) <|
  letK (([] : List Int) ++ t_34) fun (t_35 : (List Int)) =>
  guardK (t_35.length ≤ 1099511627776) <|
  letK (t_35 ++ [n_1]) fun (t_38 : (List Int)) =>
  guardK ((0 : Int) ≤ k_5l0 ∧ (k_5l0 : Int) ≤ (l.length : Int)) <|
  letK (List.drop (Int.toNat k_5l0) l) fun (t_41 : (List Int)) =>
  guardK (t_38.length + t_41.length ≤ 1099511627776) <|
  letK (t_38 ++ t_41) fun (t_42 : (List Int)) =>
  some t_42)) fun jt_28 => iteK t_20 (Option.bind (idx l k_5l0) fun (yt_24 : Int) =>
  letK (yt_24 == n_1) fun (t_27 : Bool) =>
  appK jt_28 t_27) (appK jt_28 false)

def P (fuel : Nat) (l : (List Int)) (n_1 : Int) : Option ((List Int)) :=
  loopK (l0 l n_1) fuel (0) (e0 l n_1)

set_option maxRecDepth 100000 in
set_option maxHeartbeats 2000000 in
theorem C1 (fuel : Nat) (l : (List Int)) (n_1 : Int) (A0 : Option Addr) (c0 : Nat)  (w : World) (M0 : Hid (Cells w 1 A0 l.length (Go.Proofs.Ytihibckijdfidaa.HelpInt.iv l))) (N0 : Hid (l.length ≤ 9223372036854775807)) (Q0 : Hid (Room A0 l.length c0))  {r : (List Int)} (H : Hid (P fuel l n_1 = some r)) :
    Calls Try.prog 203 #[.slice A0 l.length c0, .int .i64 n_1] w (fun e w' => ∃ A_r c_r, e = .returned (.slice A_r r.length c_r) ∧ Hid ((A_r = A0 ∧ c_r = c0 ∧ r = l) ∨ w'.ownsRow w.heap.size 3 1 (.slice A_r r.length c_r) r.length (Go.Proofs.Ytihibckijdfidaa.HelpInt.iv r)) ∧ Below w.heap.size w w') := by
  have HB := Lib.hid (Below.refl w.heap.size w)
  unfold P at H
  have N0o := N0.out
  obtain ⟨i0_3, hi_3, hz0_3, hz1_3, hz2_3⟩ := Aid.info_parts (P := Try.prog) (T := 3) (z := .int .i64 0) (s := 1) (b := 8) (by kernel_rfl)
  go_enter Try.func203, Try.ntmps203
  go_wp2_with fail
  go_loopg [5] (fuel) (fun m_ v5_ wr => ∃ (k_5l0 : Int), v5_ = .int .i64 k_5l0 ∧ Hid (loopK (l0 l n_1) m_ (k_5l0) (e0 l n_1) = some r) ∧ Hid (Below w.heap.size w wr))
  case atStart => exact ⟨_, rfl, H, HB⟩
  case round =>
    obtain ⟨k_5l0, rfl, H, HBwr0⟩ := hrel
    rename World => wr0
    cases gk with
    | zero => exact (loop_zero H).elim
    | succ m0 =>
      replace H := loop_succ H
      unfold l0 at H
      replace H := let_hid H
      obtain ⟨_, rfl, H⟩ := H
      replace H := let_hid H
      obtain ⟨t_5, ht_5, H⟩ := H
      replace H := join_hid H
      cases t_5 with
      | false =>
        replace H := ite_f H
        replace H := app_hid H
        replace H := ite_f H
        replace H := app_hid H
        unfold e0 at H
        replace H := let_hid H
        obtain ⟨_, rfl, H⟩ := H
        replace H := let_hid H
        obtain ⟨t_20, ht_20, H⟩ := H
        obtain rfl := ht_5.symm.trans ht_20
        replace H := join_hid H
        replace H := ite_f H
        replace H := app_hid H
        replace H := ite_f H
        go_wp2_with fail
        have bd6 : Below wr0.heap.size wr0 wr0.drew := (Below.refl _ _).drew
        have HBwr0.drew := Lib.hid (Below.step HBwr0.out bd6)
        clear bd6
        replace H := guard_hid H
        obtain ⟨hl_t_34, H⟩ := H
        replace H := let_hid H
        obtain ⟨t_34, ht_34, H⟩ := H
        have dt_34 : ((Go.Proofs.Ytihibckijdfidaa.HelpInt.iv l)).take (Int.toNat k_5l0 * 1) = (Go.Proofs.Ytihibckijdfidaa.HelpInt.iv t_34) := by
          rw [← ht_34]
          simp [Go.Proofs.Ytihibckijdfidaa.HelpInt.iv, List.map_take]
        have nt_34 : Int.toNat k_5l0 = t_34.length := by rw [← ht_34, List.length_take]; omega
        obtain ⟨rt_34, Mt_34, Qt_34⟩ := slice_headB (P := Try.prog) (t := 38) (e := 3) (k := .i64) (by kernel_rfl) (by kernel_rfl) hi_3 hz1_3 M0.out Q0.out hl_t_34 nt_34 dt_34
        have Nt_34 : Hid (t_34.length ≤ 9223372036854775807) := Lib.hid (by have := N0.out; omega)
        replace Mt_34 := Lib.hid Mt_34
        replace Qt_34 := Lib.hid Qt_34
        clear dt_34 nt_34 hl_t_34
        have hht_34 := Lib.hid ht_34
        clear ht_34
        replace H := guard_hid H
        obtain ⟨hlt_35, H⟩ := H
        replace H := let_hid H
        obtain ⟨t_35, ht_35, H⟩ := H
        have hht_35 := Lib.hid ht_35
        clear ht_35
        replace H := guard_hid H
        obtain ⟨hlt_38, H⟩ := H
        replace H := let_hid H
        obtain ⟨t_38, ht_38, H⟩ := H
        have hht_38 := Lib.hid ht_38
        clear ht_38
        replace H := guard_hid H
        obtain ⟨hl_t_41, H⟩ := H
        replace H := let_hid H
        obtain ⟨t_41, ht_41, H⟩ := H
        have dt_41 : ((Go.Proofs.Ytihibckijdfidaa.HelpInt.iv l)).drop (Int.toNat k_5l0 * 1) = (Go.Proofs.Ytihibckijdfidaa.HelpInt.iv t_41) := by
          rw [← ht_41]
          simp [Go.Proofs.Ytihibckijdfidaa.HelpInt.iv, List.map_drop]
        have nt_41 : l.length - Int.toNat k_5l0 = t_41.length := by rw [← ht_41, List.length_drop]
        obtain ⟨At_41, ct_41, rt_41, Mt_41, Qt_41⟩ := slice_tail (P := Try.prog) (t := 38) (e := 3) (k := .i64) (by kernel_rfl) (by kernel_rfl) hi_3 hz1_3 M0.out Q0.out hl_t_41 nt_41 dt_41
        have Nt_41 : Hid (t_41.length ≤ 9223372036854775807) := Lib.hid (by have := N0.out; omega)
        replace Mt_41 := Lib.hid Mt_41
        replace Qt_41 := Lib.hid Qt_41
        clear dt_41 nt_41 hl_t_41
        have hht_41 := Lib.hid ht_41
        clear ht_41
        have Not_41 := Nt_41.out
        replace H := guard_hid H
        obtain ⟨hlt_42, H⟩ := H
        replace H := let_hid H
        obtain ⟨t_42, ht_42, H⟩ := H
        have hht_42 := Lib.hid ht_42
        clear ht_42
        obtain ⟨w_t_31_p410, hw_t_31_p410⟩ : ∃ x, wr0.drew.alloc (.cells #[] 3) = x := ⟨_, rfl⟩
        have bw_t_31_p410 : Below wr0.drew.heap.size wr0.drew w_t_31_p410 := by rw [← hw_t_31_p410]; exact (Below.refl _ _).alloc (Nat.le_refl _) _
        have Ot_31_p410 : Hid (w_t_31_p410.ownsRow w.heap.size 3 1 (.slice (some ⟨wr0.heap.size, 0, none⟩) 0 0) 0 []) := Lib.hid (by rw [← hw_t_31_p410]; exact own_empty HBwr0.drew.out.size)
        have HBw_t_31_p410 := Lib.hid (Below.step HBwr0.drew.out bw_t_31_p410)
        obtain ⟨w_t_37_p415, hw_t_37_p415⟩ : ∃ x, w_t_31_p410.alloc (.cells #[.int .i64 n_1] 3) = x := ⟨_, rfl⟩
        have bw_t_37_p415 : Below w_t_31_p410.heap.size w_t_31_p410 w_t_37_p415 := by rw [← hw_t_37_p415]; exact (Below.refl _ _).alloc (Nat.le_refl _) _
        have Ot_37_p415 : Hid (w_t_37_p415.ownsRow w.heap.size 3 1 (.slice (some ⟨w_t_31_p410.heap.size, 0, none⟩) 1 1) 1 [.int .i64 n_1]) := Lib.hid (by rw [← hw_t_37_p415]; exact own_laid (n := 1) HBw_t_31_p410.out.size (rfl : ([.int .i64 n_1] : List Value) = [.int .i64 n_1]) rfl (by unfold maxLen; omega))
        have Dt_37_t_31_p415 := Lib.hid (apart_fresh Ot_31_p410.out)
        have HBw_t_37_p415 := Lib.hid (Below.step HBw_t_31_p410.out bw_t_37_p415)
        have Ot_31_p410_p415 := Lib.hid (own_below Ot_31_p410.out bw_t_37_p415)
        obtain ⟨w_t_37_p419, hw_t_37_p419⟩ : ∃ x, wr0.drew.alloc (.cells #[.int .i64 n_1] 3) = x := ⟨_, rfl⟩
        have bw_t_37_p419 : Below wr0.drew.heap.size wr0.drew w_t_37_p419 := by rw [← hw_t_37_p419]; exact (Below.refl _ _).alloc (Nat.le_refl _) _
        have Ot_37_p419 : Hid (w_t_37_p419.ownsRow w.heap.size 3 1 (.slice (some ⟨wr0.heap.size, 0, none⟩) 1 1) 1 [.int .i64 n_1]) := Lib.hid (by rw [← hw_t_37_p419]; exact own_laid (n := 1) HBwr0.drew.out.size (rfl : ([.int .i64 n_1] : List Value) = [.int .i64 n_1]) rfl (by unfold maxLen; omega))
        have HBw_t_37_p419 := Lib.hid (Below.step HBwr0.drew.out bw_t_37_p419)
        obtain ⟨w_t_31_p420, hw_t_31_p420⟩ : ∃ x, w_t_37_p419.alloc (.cells #[] 3) = x := ⟨_, rfl⟩
        have bw_t_31_p420 : Below w_t_37_p419.heap.size w_t_37_p419 w_t_31_p420 := by rw [← hw_t_31_p420]; exact (Below.refl _ _).alloc (Nat.le_refl _) _
        have Ot_31_p420 : Hid (w_t_31_p420.ownsRow w.heap.size 3 1 (.slice (some ⟨w_t_37_p419.heap.size, 0, none⟩) 0 0) 0 []) := Lib.hid (by rw [← hw_t_31_p420]; exact own_empty HBw_t_37_p419.out.size)
        have Dt_31_t_37_p420 := Lib.hid (apart_fresh Ot_37_p419.out)
        have HBw_t_31_p420 := Lib.hid (Below.step HBw_t_37_p419.out bw_t_31_p420)
        have Ot_37_p419_p420 := Lib.hid (own_below Ot_37_p419.out bw_t_31_p420)
        go_region_held3 (fun w' => Hid (0 ≤ w'.heap.size)) (first | exact Lib.hid (Nat.zero_le _))
            (first
              | (have hst_35_p411 := HBw_t_31_p410.out.size
                 have Ct_35_p411 := Lib.hid ((Cells.below Mt_34.out HBw_t_31_p410.out))
                 have h1t_35_p411 : 0 + t_34.length ≤ maxLen := by have h_ := hlt_35; simp only [List.length_nil] at h_; unfold maxLen; omega
                 have h2t_35_p411 : (0 + t_34.length) * 8 ≤ 140737488355328 := by have h_ := hlt_35; simp only [List.length_nil] at h_; omega
                 refine Go.Proofs.Ytihibckijdfidaa.GoH.step_spread_own (w := w_t_31_p410) rfl (.tmp 33) (.tmp 36) 38 rfl w.heap.size 3 i0_3 (.int .i64 0) 1 8 Try.underlying38 hi_3 hz0_3 hz1_3 hz2_3 rfl (by decide) (some ⟨wr0.heap.size, 0, none⟩) 0 0 _ rfl Ot_31_p410.out A0 t_34.length c0 (Go.Proofs.Ytihibckijdfidaa.HelpInt.iv t_34) rfl Qt_34.out Ct_35_p411.out (fun u hu => by unfold Go.Proofs.Ytihibckijdfidaa.HelpInt.iv at hu; obtain ⟨y_, _, rfl⟩ := List.mem_map.1 hu; rfl) h1t_35_p411 h2t_35_p411 hst_35_p411 ?_
                 intro vt_35_p411 wt_35_p411 ot_35_p411 gt_35_p411 yt_35_p411
                 obtain ⟨At_35_p411, ct_35_p411, rfl, pt_35_p411⟩ := own_pushS (f := Go.Proofs.Ytihibckijdfidaa.HelpInt.iv) hht_35.out (by simp [Go.Proofs.Ytihibckijdfidaa.HelpInt.iv]) rfl ot_35_p411
                 have Pt_35_p411 := Lib.hid pt_35_p411
                 have Yt_35_p411 := Lib.hid yt_35_p411
                 have Gt_35_p411 := Lib.hid gt_35_p411
                 have HBwt_35_p411 := Lib.hid (HBw_t_31_p410.out.grown Gt_35_p411.out hst_35_p411 (fun q hq => (Ot_31_p410.out.lt q hq).1))
                 obtain ⟨w_t_37_p412, hw_t_37_p412⟩ : ∃ x, wt_35_p411.alloc (.cells #[.int .i64 n_1] 3) = x := ⟨_, rfl⟩
                 have bw_t_37_p412 : Below wt_35_p411.heap.size wt_35_p411 w_t_37_p412 := by rw [← hw_t_37_p412]; exact (Below.refl _ _).alloc (Nat.le_refl _) _
                 have Ot_37_p412 : Hid (w_t_37_p412.ownsRow w.heap.size 3 1 (.slice (some ⟨wt_35_p411.heap.size, 0, none⟩) 1 1) 1 [.int .i64 n_1]) := Lib.hid (by rw [← hw_t_37_p412]; exact own_laid (n := 1) HBwt_35_p411.out.size (rfl : ([.int .i64 n_1] : List Value) = [.int .i64 n_1]) rfl (by unfold maxLen; omega))
                 have Dt_37_t_35_p412 := Lib.hid (apart_fresh Pt_35_p411.out)
                 have HBw_t_37_p412 := Lib.hid (Below.step HBwt_35_p411.out bw_t_37_p412)
                 have Pt_35_p411_p412 := Lib.hid (own_below Pt_35_p411.out bw_t_37_p412))
              | (have hst_38_p413 := HBw_t_37_p412.out.size
                 have h1t_38_p413 : t_35.length + 1 ≤ maxLen := by unfold maxLen; omega
                 have h2t_38_p413 : (t_35.length + 1) * 8 ≤ 140737488355328 := by omega
                 have h3t_38_p413 := Ot_37_p412.out.cells rfl
                 refine Go.Proofs.Ytihibckijdfidaa.GoH.step_append_own (w := w_t_37_p412) rfl (.tmp 37) (.tmp 39) 38 rfl w.heap.size 3 i0_3 (.int .i64 0) 1 8 Try.underlying38 hi_3 hz0_3 hz1_3 hz2_3 rfl (by decide) At_35_p411 ct_35_p411 t_35.length _ rfl Pt_35_p411_p412.out ⟨wt_35_p411.heap.size, 0, none⟩ 1 [.int .i64 n_1] rfl rfl h3t_38_p413 (one_cells rfl) h1t_38_p413 h2t_38_p413 hst_38_p413 ?_
                 intro vt_38_p413 wt_38_p413 ot_38_p413 gt_38_p413 yt_38_p413
                 obtain ⟨qt_38_p413, ct_38_p413, rfl, pt_38_p413⟩ := own_push hht_38.out (Go.Proofs.Ytihibckijdfidaa.HelpInt.iv_snoc _ _) rfl ot_38_p413
                 have Pt_38_p413 := Lib.hid pt_38_p413
                 have Yt_38_p413 := Lib.hid yt_38_p413
                 have Gt_38_p413 := Lib.hid gt_38_p413
                 have HBwt_38_p413 := Lib.hid (HBw_t_37_p412.out.grown Gt_38_p413.out hst_38_p413 (fun q hq => (Pt_35_p411_p412.out.lt q hq).1))
                 have Dt_38_t_37_p413 : Hid (Apart (some ⟨qt_38_p413, 0, none⟩) _) := Lib.hid (apart_app (Apart.symm Dt_37_t_35_p412.out) (fun a_ ha_ => (own_lt Ot_37_p412.out a_ ha_).2) Yt_38_p413.out)
                 have Ot_37_p412_p413 := Lib.hid (own_other Ot_37_p412.out Gt_38_p413.out (Apart.symm Dt_37_t_35_p412.out)))
              | (have hst_42_p414 := HBwt_38_p413.out.size
                 have Ct_42_p414 := Lib.hid ((Cells.below Mt_41.out HBwt_38_p413.out))
                 have h1t_42_p414 : t_38.length + t_41.length ≤ maxLen := by have h_ := hlt_42; unfold maxLen; omega
                 have h2t_42_p414 : (t_38.length + t_41.length) * 8 ≤ 140737488355328 := by have h_ := hlt_42; omega
                 refine Go.Proofs.Ytihibckijdfidaa.GoH.step_spread_own (w := wt_38_p413) rfl (.tmp 40) (.tmp 43) 38 rfl w.heap.size 3 i0_3 (.int .i64 0) 1 8 Try.underlying38 hi_3 hz0_3 hz1_3 hz2_3 rfl (by decide) (some ⟨qt_38_p413, 0, none⟩) ct_38_p413 t_38.length _ rfl Pt_38_p413.out At_41 t_41.length ct_41 (Go.Proofs.Ytihibckijdfidaa.HelpInt.iv t_41) rfl Qt_41.out Ct_42_p414.out (fun u hu => by unfold Go.Proofs.Ytihibckijdfidaa.HelpInt.iv at hu; obtain ⟨y_, _, rfl⟩ := List.mem_map.1 hu; rfl) h1t_42_p414 h2t_42_p414 hst_42_p414 ?_
                 intro vt_42_p414 wt_42_p414 ot_42_p414 gt_42_p414 yt_42_p414
                 obtain ⟨At_42_p414, ct_42_p414, rfl, pt_42_p414⟩ := own_pushS (f := Go.Proofs.Ytihibckijdfidaa.HelpInt.iv) hht_42.out (by simp [Go.Proofs.Ytihibckijdfidaa.HelpInt.iv]) rfl ot_42_p414
                 have Pt_42_p414 := Lib.hid pt_42_p414
                 have Yt_42_p414 := Lib.hid yt_42_p414
                 have Gt_42_p414 := Lib.hid gt_42_p414
                 have HBwt_42_p414 := Lib.hid (HBwt_38_p413.out.grown Gt_42_p414.out hst_42_p414 (fun q hq => (Pt_38_p413.out.lt q hq).1)))
              | (have hst_35_p416 := HBw_t_37_p415.out.size
                 have Ct_35_p416 := Lib.hid ((Cells.below Mt_34.out HBw_t_37_p415.out))
                 have h1t_35_p416 : 0 + t_34.length ≤ maxLen := by have h_ := hlt_35; simp only [List.length_nil] at h_; unfold maxLen; omega
                 have h2t_35_p416 : (0 + t_34.length) * 8 ≤ 140737488355328 := by have h_ := hlt_35; simp only [List.length_nil] at h_; omega
                 refine Go.Proofs.Ytihibckijdfidaa.GoH.step_spread_own (w := w_t_37_p415) rfl (.tmp 33) (.tmp 36) 38 rfl w.heap.size 3 i0_3 (.int .i64 0) 1 8 Try.underlying38 hi_3 hz0_3 hz1_3 hz2_3 rfl (by decide) (some ⟨wr0.heap.size, 0, none⟩) 0 0 _ rfl Ot_31_p410_p415.out A0 t_34.length c0 (Go.Proofs.Ytihibckijdfidaa.HelpInt.iv t_34) rfl Qt_34.out Ct_35_p416.out (fun u hu => by unfold Go.Proofs.Ytihibckijdfidaa.HelpInt.iv at hu; obtain ⟨y_, _, rfl⟩ := List.mem_map.1 hu; rfl) h1t_35_p416 h2t_35_p416 hst_35_p416 ?_
                 intro vt_35_p416 wt_35_p416 ot_35_p416 gt_35_p416 yt_35_p416
                 obtain ⟨At_35_p416, ct_35_p416, rfl, pt_35_p416⟩ := own_pushS (f := Go.Proofs.Ytihibckijdfidaa.HelpInt.iv) hht_35.out (by simp [Go.Proofs.Ytihibckijdfidaa.HelpInt.iv]) rfl ot_35_p416
                 have Pt_35_p416 := Lib.hid pt_35_p416
                 have Yt_35_p416 := Lib.hid yt_35_p416
                 have Gt_35_p416 := Lib.hid gt_35_p416
                 have HBwt_35_p416 := Lib.hid (HBw_t_37_p415.out.grown Gt_35_p416.out hst_35_p416 (fun q hq => (Ot_31_p410_p415.out.lt q hq).1))
                 have Dt_35_t_37_p416 : Hid (Apart At_35_p416 _) := Lib.hid (apart_app (Apart.symm Dt_37_t_31_p415.out) (fun a_ ha_ => (own_lt Ot_37_p415.out a_ ha_).2) Yt_35_p416.out)
                 have Ot_37_p415_p416 := Lib.hid (own_other Ot_37_p415.out Gt_35_p416.out (Apart.symm Dt_37_t_31_p415.out)))
              | (have hst_38_p417 := HBwt_35_p416.out.size
                 have h1t_38_p417 : t_35.length + 1 ≤ maxLen := by unfold maxLen; omega
                 have h2t_38_p417 : (t_35.length + 1) * 8 ≤ 140737488355328 := by omega
                 have h3t_38_p417 := Ot_37_p415_p416.out.cells rfl
                 refine Go.Proofs.Ytihibckijdfidaa.GoH.step_append_own (w := wt_35_p416) rfl (.tmp 37) (.tmp 39) 38 rfl w.heap.size 3 i0_3 (.int .i64 0) 1 8 Try.underlying38 hi_3 hz0_3 hz1_3 hz2_3 rfl (by decide) At_35_p416 ct_35_p416 t_35.length _ rfl Pt_35_p416.out ⟨w_t_31_p410.heap.size, 0, none⟩ 1 [.int .i64 n_1] rfl rfl h3t_38_p417 (one_cells rfl) h1t_38_p417 h2t_38_p417 hst_38_p417 ?_
                 intro vt_38_p417 wt_38_p417 ot_38_p417 gt_38_p417 yt_38_p417
                 obtain ⟨qt_38_p417, ct_38_p417, rfl, pt_38_p417⟩ := own_push hht_38.out (Go.Proofs.Ytihibckijdfidaa.HelpInt.iv_snoc _ _) rfl ot_38_p417
                 have Pt_38_p417 := Lib.hid pt_38_p417
                 have Yt_38_p417 := Lib.hid yt_38_p417
                 have Gt_38_p417 := Lib.hid gt_38_p417
                 have HBwt_38_p417 := Lib.hid (HBwt_35_p416.out.grown Gt_38_p417.out hst_38_p417 (fun q hq => (Pt_35_p416.out.lt q hq).1))
                 have Dt_38_t_37_p417 : Hid (Apart (some ⟨qt_38_p417, 0, none⟩) _) := Lib.hid (apart_app Dt_35_t_37_p416.out (fun a_ ha_ => (own_lt Ot_37_p415_p416.out a_ ha_).2) Yt_38_p417.out)
                 have Ot_37_p415_p416_p417 := Lib.hid (own_other Ot_37_p415_p416.out Gt_38_p417.out Dt_35_t_37_p416.out))
              | (have hst_42_p418 := HBwt_38_p417.out.size
                 have Ct_42_p418 := Lib.hid ((Cells.below Mt_41.out HBwt_38_p417.out))
                 have h1t_42_p418 : t_38.length + t_41.length ≤ maxLen := by have h_ := hlt_42; unfold maxLen; omega
                 have h2t_42_p418 : (t_38.length + t_41.length) * 8 ≤ 140737488355328 := by have h_ := hlt_42; omega
                 refine Go.Proofs.Ytihibckijdfidaa.GoH.step_spread_own (w := wt_38_p417) rfl (.tmp 40) (.tmp 43) 38 rfl w.heap.size 3 i0_3 (.int .i64 0) 1 8 Try.underlying38 hi_3 hz0_3 hz1_3 hz2_3 rfl (by decide) (some ⟨qt_38_p417, 0, none⟩) ct_38_p417 t_38.length _ rfl Pt_38_p417.out At_41 t_41.length ct_41 (Go.Proofs.Ytihibckijdfidaa.HelpInt.iv t_41) rfl Qt_41.out Ct_42_p418.out (fun u hu => by unfold Go.Proofs.Ytihibckijdfidaa.HelpInt.iv at hu; obtain ⟨y_, _, rfl⟩ := List.mem_map.1 hu; rfl) h1t_42_p418 h2t_42_p418 hst_42_p418 ?_
                 intro vt_42_p418 wt_42_p418 ot_42_p418 gt_42_p418 yt_42_p418
                 obtain ⟨At_42_p418, ct_42_p418, rfl, pt_42_p418⟩ := own_pushS (f := Go.Proofs.Ytihibckijdfidaa.HelpInt.iv) hht_42.out (by simp [Go.Proofs.Ytihibckijdfidaa.HelpInt.iv]) rfl ot_42_p418
                 have Pt_42_p418 := Lib.hid pt_42_p418
                 have Yt_42_p418 := Lib.hid yt_42_p418
                 have Gt_42_p418 := Lib.hid gt_42_p418
                 have HBwt_42_p418 := Lib.hid (HBwt_38_p417.out.grown Gt_42_p418.out hst_42_p418 (fun q hq => (Pt_38_p417.out.lt q hq).1)))
              | (have hst_35_p421 := HBw_t_31_p420.out.size
                 have Ct_35_p421 := Lib.hid ((Cells.below Mt_34.out HBw_t_31_p420.out))
                 have h1t_35_p421 : 0 + t_34.length ≤ maxLen := by have h_ := hlt_35; simp only [List.length_nil] at h_; unfold maxLen; omega
                 have h2t_35_p421 : (0 + t_34.length) * 8 ≤ 140737488355328 := by have h_ := hlt_35; simp only [List.length_nil] at h_; omega
                 refine Go.Proofs.Ytihibckijdfidaa.GoH.step_spread_own (w := w_t_31_p420) rfl (.tmp 33) (.tmp 36) 38 rfl w.heap.size 3 i0_3 (.int .i64 0) 1 8 Try.underlying38 hi_3 hz0_3 hz1_3 hz2_3 rfl (by decide) (some ⟨w_t_37_p419.heap.size, 0, none⟩) 0 0 _ rfl Ot_31_p420.out A0 t_34.length c0 (Go.Proofs.Ytihibckijdfidaa.HelpInt.iv t_34) rfl Qt_34.out Ct_35_p421.out (fun u hu => by unfold Go.Proofs.Ytihibckijdfidaa.HelpInt.iv at hu; obtain ⟨y_, _, rfl⟩ := List.mem_map.1 hu; rfl) h1t_35_p421 h2t_35_p421 hst_35_p421 ?_
                 intro vt_35_p421 wt_35_p421 ot_35_p421 gt_35_p421 yt_35_p421
                 obtain ⟨At_35_p421, ct_35_p421, rfl, pt_35_p421⟩ := own_pushS (f := Go.Proofs.Ytihibckijdfidaa.HelpInt.iv) hht_35.out (by simp [Go.Proofs.Ytihibckijdfidaa.HelpInt.iv]) rfl ot_35_p421
                 have Pt_35_p421 := Lib.hid pt_35_p421
                 have Yt_35_p421 := Lib.hid yt_35_p421
                 have Gt_35_p421 := Lib.hid gt_35_p421
                 have HBwt_35_p421 := Lib.hid (HBw_t_31_p420.out.grown Gt_35_p421.out hst_35_p421 (fun q hq => (Ot_31_p420.out.lt q hq).1))
                 have Dt_35_t_37_p421 : Hid (Apart At_35_p421 _) := Lib.hid (apart_app Dt_31_t_37_p420.out (fun a_ ha_ => (own_lt Ot_37_p419_p420.out a_ ha_).2) Yt_35_p421.out)
                 have Ot_37_p419_p420_p421 := Lib.hid (own_other Ot_37_p419_p420.out Gt_35_p421.out Dt_31_t_37_p420.out))
              | (have hst_38_p422 := HBwt_35_p421.out.size
                 have h1t_38_p422 : t_35.length + 1 ≤ maxLen := by unfold maxLen; omega
                 have h2t_38_p422 : (t_35.length + 1) * 8 ≤ 140737488355328 := by omega
                 have h3t_38_p422 := Ot_37_p419_p420_p421.out.cells rfl
                 refine Go.Proofs.Ytihibckijdfidaa.GoH.step_append_own (w := wt_35_p421) rfl (.tmp 37) (.tmp 39) 38 rfl w.heap.size 3 i0_3 (.int .i64 0) 1 8 Try.underlying38 hi_3 hz0_3 hz1_3 hz2_3 rfl (by decide) At_35_p421 ct_35_p421 t_35.length _ rfl Pt_35_p421.out ⟨wr0.heap.size, 0, none⟩ 1 [.int .i64 n_1] rfl rfl h3t_38_p422 (one_cells rfl) h1t_38_p422 h2t_38_p422 hst_38_p422 ?_
                 intro vt_38_p422 wt_38_p422 ot_38_p422 gt_38_p422 yt_38_p422
                 obtain ⟨qt_38_p422, ct_38_p422, rfl, pt_38_p422⟩ := own_push hht_38.out (Go.Proofs.Ytihibckijdfidaa.HelpInt.iv_snoc _ _) rfl ot_38_p422
                 have Pt_38_p422 := Lib.hid pt_38_p422
                 have Yt_38_p422 := Lib.hid yt_38_p422
                 have Gt_38_p422 := Lib.hid gt_38_p422
                 have HBwt_38_p422 := Lib.hid (HBwt_35_p421.out.grown Gt_38_p422.out hst_38_p422 (fun q hq => (Pt_35_p421.out.lt q hq).1))
                 have Dt_38_t_37_p422 : Hid (Apart (some ⟨qt_38_p422, 0, none⟩) _) := Lib.hid (apart_app Dt_35_t_37_p421.out (fun a_ ha_ => (own_lt Ot_37_p419_p420_p421.out a_ ha_).2) Yt_38_p422.out)
                 have Ot_37_p419_p420_p421_p422 := Lib.hid (own_other Ot_37_p419_p420_p421.out Gt_38_p422.out Dt_35_t_37_p421.out))
              | (have hst_42_p423 := HBwt_38_p422.out.size
                 have Ct_42_p423 := Lib.hid ((Cells.below Mt_41.out HBwt_38_p422.out))
                 have h1t_42_p423 : t_38.length + t_41.length ≤ maxLen := by have h_ := hlt_42; unfold maxLen; omega
                 have h2t_42_p423 : (t_38.length + t_41.length) * 8 ≤ 140737488355328 := by have h_ := hlt_42; omega
                 refine Go.Proofs.Ytihibckijdfidaa.GoH.step_spread_own (w := wt_38_p422) rfl (.tmp 40) (.tmp 43) 38 rfl w.heap.size 3 i0_3 (.int .i64 0) 1 8 Try.underlying38 hi_3 hz0_3 hz1_3 hz2_3 rfl (by decide) (some ⟨qt_38_p422, 0, none⟩) ct_38_p422 t_38.length _ rfl Pt_38_p422.out At_41 t_41.length ct_41 (Go.Proofs.Ytihibckijdfidaa.HelpInt.iv t_41) rfl Qt_41.out Ct_42_p423.out (fun u hu => by unfold Go.Proofs.Ytihibckijdfidaa.HelpInt.iv at hu; obtain ⟨y_, _, rfl⟩ := List.mem_map.1 hu; rfl) h1t_42_p423 h2t_42_p423 hst_42_p423 ?_
                 intro vt_42_p423 wt_42_p423 ot_42_p423 gt_42_p423 yt_42_p423
                 obtain ⟨At_42_p423, ct_42_p423, rfl, pt_42_p423⟩ := own_pushS (f := Go.Proofs.Ytihibckijdfidaa.HelpInt.iv) hht_42.out (by simp [Go.Proofs.Ytihibckijdfidaa.HelpInt.iv]) rfl ot_42_p423
                 have Pt_42_p423 := Lib.hid pt_42_p423
                 have Yt_42_p423 := Lib.hid yt_42_p423
                 have Gt_42_p423 := Lib.hid gt_42_p423
                 have HBwt_42_p423 := Lib.hid (HBwt_38_p422.out.grown Gt_42_p423.out hst_42_p423 (fun q hq => (Pt_38_p422.out.lt q hq).1))))
        · skip
          obtain rfl := ret_hid H
          go_wp2_with fail
          go_ret
          exact ⟨At_42_p414, ct_42_p414, rfl, (Lib.hid (.inr Pt_42_p414.out)), HBwt_42_p414.out⟩
        · skip
          obtain rfl := ret_hid H
          go_wp2_with fail
          go_ret
          exact ⟨At_42_p418, ct_42_p418, rfl, (Lib.hid (.inr Pt_42_p418.out)), HBwt_42_p418.out⟩
        · skip
          obtain rfl := ret_hid H
          go_wp2_with fail
          go_ret
          exact ⟨At_42_p423, ct_42_p423, rfl, (Lib.hid (.inr Pt_42_p423.out)), HBwt_42_p423.out⟩
      | true =>
        replace H := ite_t H
        replace H := idx_hid H
        obtain ⟨nt_9, yt_9, et_9, lt_9, gt_9, H⟩ := H
        subst et_9
        have nc_424 : nt_9 < l.length := by have := of_decide_eq_true ht_5; omega
        obtain ⟨ab_t_9, ao_t_9, zt_9, At_9, z_t_9, ct_9_0⟩ := Go.Proofs.Ytihibckijdfidaa.HelpInt.Ints.at_ M0.out lt_9
        obtain rfl := Option.some.inj (gt_9.out.symm.trans z_t_9)
        subst At_9
        have ltt_9 := cell_lt ct_9_0
        replace ct_9_0 := cell_below HBwr0.out ct_9_0
        clear z_t_9
        have b0t_9 : (0 : Int) ≤ (nt_9 : Int) := by omega
        have b1t_9 : (nt_9 : Int) < ((l.length : Nat) : Int) := by omega
        have b2t_9 : ((nt_9 : Int)).toNat = nt_9 := by omega
        replace H := let_hid H
        obtain ⟨t_12, ht_12, H⟩ := H
        replace H := app_hid H
        cases t_12 with
        | false =>
          replace H := ite_f H
          replace H := app_hid H
          unfold e0 at H
          replace H := let_hid H
          obtain ⟨_, rfl, H⟩ := H
          replace H := let_hid H
          obtain ⟨t_20, ht_20, H⟩ := H
          obtain rfl := ht_5.symm.trans ht_20
          replace H := join_hid H
          replace H := ite_t H
          replace H := idx_hid H
          obtain ⟨nt_24, yt_24, et_24, lt_24, gt_24, H⟩ := H
          obtain rfl : nt_9 = nt_24 := by omega
          clear et_24
          obtain rfl := Option.some.inj (gt_9.out.symm.trans gt_24.out)
          clear gt_24 lt_24
          replace H := let_hid H
          obtain ⟨t_27, ht_27, H⟩ := H
          replace H := app_hid H
          cases t_27 with
          | false =>
            replace H := ite_f H
            go_wp2_with fail
            have bd6 : Below wr0.heap.size wr0 wr0.drew := (Below.refl _ _).drew
            have HBwr0.drew := Lib.hid (Below.step HBwr0.out bd6)
            replace ct_9_0 := cell_below bd6 ct_9_0
            clear bd6
            replace H := guard_hid H
            obtain ⟨hl_t_34, H⟩ := H
            replace H := let_hid H
            obtain ⟨t_34, ht_34, H⟩ := H
            have dt_34 : ((Go.Proofs.Ytihibckijdfidaa.HelpInt.iv l)).take (Int.toNat (nt_9 : Int) * 1) = (Go.Proofs.Ytihibckijdfidaa.HelpInt.iv t_34) := by
              rw [← ht_34]
              simp [Go.Proofs.Ytihibckijdfidaa.HelpInt.iv, List.map_take]
            have nt_34 : Int.toNat (nt_9 : Int) = t_34.length := by rw [← ht_34, List.length_take]; omega
            obtain ⟨rt_34, Mt_34, Qt_34⟩ := slice_headB (P := Try.prog) (t := 38) (e := 3) (k := .i64) (by kernel_rfl) (by kernel_rfl) hi_3 hz1_3 M0.out Q0.out hl_t_34 nt_34 dt_34
            have Nt_34 : Hid (t_34.length ≤ 9223372036854775807) := Lib.hid (by have := N0.out; omega)
            replace Mt_34 := Lib.hid Mt_34
            replace Qt_34 := Lib.hid Qt_34
            clear dt_34 nt_34 hl_t_34
            have hht_34 := Lib.hid ht_34
            clear ht_34
            replace H := guard_hid H
            obtain ⟨hlt_35, H⟩ := H
            replace H := let_hid H
            obtain ⟨t_35, ht_35, H⟩ := H
            have hht_35 := Lib.hid ht_35
            clear ht_35
            replace H := guard_hid H
            obtain ⟨hlt_38, H⟩ := H
            replace H := let_hid H
            obtain ⟨t_38, ht_38, H⟩ := H
            have hht_38 := Lib.hid ht_38
            clear ht_38
            replace H := guard_hid H
            obtain ⟨hl_t_41, H⟩ := H
            replace H := let_hid H
            obtain ⟨t_41, ht_41, H⟩ := H
            have dt_41 : ((Go.Proofs.Ytihibckijdfidaa.HelpInt.iv l)).drop (Int.toNat (nt_9 : Int) * 1) = (Go.Proofs.Ytihibckijdfidaa.HelpInt.iv t_41) := by
              rw [← ht_41]
              simp [Go.Proofs.Ytihibckijdfidaa.HelpInt.iv, List.map_drop]
            have nt_41 : l.length - Int.toNat (nt_9 : Int) = t_41.length := by rw [← ht_41, List.length_drop]
            obtain ⟨At_41, ct_41, rt_41, Mt_41, Qt_41⟩ := slice_tail (P := Try.prog) (t := 38) (e := 3) (k := .i64) (by kernel_rfl) (by kernel_rfl) hi_3 hz1_3 M0.out Q0.out hl_t_41 nt_41 dt_41
            have Nt_41 : Hid (t_41.length ≤ 9223372036854775807) := Lib.hid (by have := N0.out; omega)
            replace Mt_41 := Lib.hid Mt_41
            replace Qt_41 := Lib.hid Qt_41
            clear dt_41 nt_41 hl_t_41
            have hht_41 := Lib.hid ht_41
            clear ht_41
            have Not_41 := Nt_41.out
            replace H := guard_hid H
            obtain ⟨hlt_42, H⟩ := H
            replace H := let_hid H
            obtain ⟨t_42, ht_42, H⟩ := H
            have hht_42 := Lib.hid ht_42
            clear ht_42
            obtain ⟨w_t_31_p428, hw_t_31_p428⟩ : ∃ x, wr0.drew.alloc (.cells #[] 3) = x := ⟨_, rfl⟩
            have bw_t_31_p428 : Below wr0.drew.heap.size wr0.drew w_t_31_p428 := by rw [← hw_t_31_p428]; exact (Below.refl _ _).alloc (Nat.le_refl _) _
            have Ot_31_p428 : Hid (w_t_31_p428.ownsRow w.heap.size 3 1 (.slice (some ⟨wr0.heap.size, 0, none⟩) 0 0) 0 []) := Lib.hid (by rw [← hw_t_31_p428]; exact own_empty HBwr0.drew.out.size)
            have HBw_t_31_p428 := Lib.hid (Below.step HBwr0.drew.out bw_t_31_p428)
            have ct_9_0__427_p428 := cell_below bw_t_31_p428 ct_9_0
            obtain ⟨w_t_37_p435, hw_t_37_p435⟩ : ∃ x, w_t_31_p428.alloc (.cells #[.int .i64 n_1] 3) = x := ⟨_, rfl⟩
            have bw_t_37_p435 : Below w_t_31_p428.heap.size w_t_31_p428 w_t_37_p435 := by rw [← hw_t_37_p435]; exact (Below.refl _ _).alloc (Nat.le_refl _) _
            have Ot_37_p435 : Hid (w_t_37_p435.ownsRow w.heap.size 3 1 (.slice (some ⟨w_t_31_p428.heap.size, 0, none⟩) 1 1) 1 [.int .i64 n_1]) := Lib.hid (by rw [← hw_t_37_p435]; exact own_laid (n := 1) HBw_t_31_p428.out.size (rfl : ([.int .i64 n_1] : List Value) = [.int .i64 n_1]) rfl (by unfold maxLen; omega))
            have Dt_37_t_31_p435 := Lib.hid (apart_fresh Ot_31_p428.out)
            have HBw_t_37_p435 := Lib.hid (Below.step HBw_t_31_p428.out bw_t_37_p435)
            have ct_9_0__434_p435 := cell_below bw_t_37_p435 ct_9_0__427_p428
            have Ot_31_p428_p435 := Lib.hid (own_below Ot_31_p428.out bw_t_37_p435)
            obtain ⟨w_t_37_p440, hw_t_37_p440⟩ : ∃ x, wr0.drew.alloc (.cells #[.int .i64 n_1] 3) = x := ⟨_, rfl⟩
            have bw_t_37_p440 : Below wr0.drew.heap.size wr0.drew w_t_37_p440 := by rw [← hw_t_37_p440]; exact (Below.refl _ _).alloc (Nat.le_refl _) _
            have Ot_37_p440 : Hid (w_t_37_p440.ownsRow w.heap.size 3 1 (.slice (some ⟨wr0.heap.size, 0, none⟩) 1 1) 1 [.int .i64 n_1]) := Lib.hid (by rw [← hw_t_37_p440]; exact own_laid (n := 1) HBwr0.drew.out.size (rfl : ([.int .i64 n_1] : List Value) = [.int .i64 n_1]) rfl (by unfold maxLen; omega))
            have HBw_t_37_p440 := Lib.hid (Below.step HBwr0.drew.out bw_t_37_p440)
            have ct_9_0__439_p440 := cell_below bw_t_37_p440 ct_9_0
            obtain ⟨w_t_31_p442, hw_t_31_p442⟩ : ∃ x, w_t_37_p440.alloc (.cells #[] 3) = x := ⟨_, rfl⟩
            have bw_t_31_p442 : Below w_t_37_p440.heap.size w_t_37_p440 w_t_31_p442 := by rw [← hw_t_31_p442]; exact (Below.refl _ _).alloc (Nat.le_refl _) _
            have Ot_31_p442 : Hid (w_t_31_p442.ownsRow w.heap.size 3 1 (.slice (some ⟨w_t_37_p440.heap.size, 0, none⟩) 0 0) 0 []) := Lib.hid (by rw [← hw_t_31_p442]; exact own_empty HBw_t_37_p440.out.size)
            have Dt_31_t_37_p442 := Lib.hid (apart_fresh Ot_37_p440.out)
            have HBw_t_31_p442 := Lib.hid (Below.step HBw_t_37_p440.out bw_t_31_p442)
            have ct_9_0__441_p442 := cell_below bw_t_31_p442 ct_9_0__439_p440
            have Ot_37_p440_p442 := Lib.hid (own_below Ot_37_p440.out bw_t_31_p442)
            go_region_held3 (fun w' => w'.cell? ⟨ab_t_9, ao_t_9 + nt_9, none⟩ = some (.int .i64 yt_9)) (first | exact ct_9_0 | exact ct_9_0__427_p428 | exact ct_9_0__427_p428_p429 | exact ct_9_0__430_p431 | exact ct_9_0__430_p431_p432 | exact ct_9_0__430_p431_p432_p433 | exact ct_9_0__434_p435 | exact ct_9_0__434_p435_p436 | exact ct_9_0__434_p435_p436_p437 | exact ct_9_0__434_p435_p436_p437_p438 | exact ct_9_0__439_p440 | exact ct_9_0__441_p442 | exact ct_9_0__441_p442_p443 | exact ct_9_0__441_p442_p443_p444 | exact ct_9_0__441_p442_p443_p444_p445)
                (first
                  | (have hst_35_p429 := HBw_t_31_p428.out.size
                     have Ct_35_p429 := Lib.hid ((Cells.below Mt_34.out HBw_t_31_p428.out))
                     have h1t_35_p429 : 0 + t_34.length ≤ maxLen := by have h_ := hlt_35; simp only [List.length_nil] at h_; unfold maxLen; omega
                     have h2t_35_p429 : (0 + t_34.length) * 8 ≤ 140737488355328 := by have h_ := hlt_35; simp only [List.length_nil] at h_; omega
                     refine Go.Proofs.Ytihibckijdfidaa.GoH.step_spread_own (w := w_t_31_p428) rfl (.tmp 33) (.tmp 36) 38 rfl w.heap.size 3 i0_3 (.int .i64 0) 1 8 Try.underlying38 hi_3 hz0_3 hz1_3 hz2_3 rfl (by decide) (some ⟨wr0.heap.size, 0, none⟩) 0 0 _ rfl Ot_31_p428.out (some ⟨ab_t_9, ao_t_9, none⟩) t_34.length c0 (Go.Proofs.Ytihibckijdfidaa.HelpInt.iv t_34) rfl Qt_34.out Ct_35_p429.out (fun u hu => by unfold Go.Proofs.Ytihibckijdfidaa.HelpInt.iv at hu; obtain ⟨y_, _, rfl⟩ := List.mem_map.1 hu; rfl) h1t_35_p429 h2t_35_p429 hst_35_p429 ?_
                     intro vt_35_p429 wt_35_p429 ot_35_p429 gt_35_p429 yt_35_p429
                     obtain ⟨At_35_p429, ct_35_p429, rfl, pt_35_p429⟩ := own_pushS (f := Go.Proofs.Ytihibckijdfidaa.HelpInt.iv) hht_35.out (by simp [Go.Proofs.Ytihibckijdfidaa.HelpInt.iv]) rfl ot_35_p429
                     have Pt_35_p429 := Lib.hid pt_35_p429
                     have Yt_35_p429 := Lib.hid yt_35_p429
                     have Gt_35_p429 := Lib.hid gt_35_p429
                     have HBwt_35_p429 := Lib.hid (HBw_t_31_p428.out.grown Gt_35_p429.out hst_35_p429 (fun q hq => (Ot_31_p428.out.lt q hq).1))
                     have ct_9_0__427_p428_p429 := cell_other ct_9_0__427_p428 Gt_35_p429.out (apart_old Ot_31_p428.out ltt_9)
                     obtain ⟨w_t_37_p431, hw_t_37_p431⟩ : ∃ x, wt_35_p429.alloc (.cells #[.int .i64 n_1] 3) = x := ⟨_, rfl⟩
                     have bw_t_37_p431 : Below wt_35_p429.heap.size wt_35_p429 w_t_37_p431 := by rw [← hw_t_37_p431]; exact (Below.refl _ _).alloc (Nat.le_refl _) _
                     have Ot_37_p431 : Hid (w_t_37_p431.ownsRow w.heap.size 3 1 (.slice (some ⟨wt_35_p429.heap.size, 0, none⟩) 1 1) 1 [.int .i64 n_1]) := Lib.hid (by rw [← hw_t_37_p431]; exact own_laid (n := 1) HBwt_35_p429.out.size (rfl : ([.int .i64 n_1] : List Value) = [.int .i64 n_1]) rfl (by unfold maxLen; omega))
                     have Dt_37_t_35_p431 := Lib.hid (apart_fresh Pt_35_p429.out)
                     have HBw_t_37_p431 := Lib.hid (Below.step HBwt_35_p429.out bw_t_37_p431)
                     have ct_9_0__430_p431 := cell_below bw_t_37_p431 ct_9_0__427_p428_p429
                     have Pt_35_p429_p431 := Lib.hid (own_below Pt_35_p429.out bw_t_37_p431))
                  | (have hst_38_p432 := HBw_t_37_p431.out.size
                     have h1t_38_p432 : t_35.length + 1 ≤ maxLen := by unfold maxLen; omega
                     have h2t_38_p432 : (t_35.length + 1) * 8 ≤ 140737488355328 := by omega
                     have h3t_38_p432 := Ot_37_p431.out.cells rfl
                     refine Go.Proofs.Ytihibckijdfidaa.GoH.step_append_own (w := w_t_37_p431) rfl (.tmp 37) (.tmp 39) 38 rfl w.heap.size 3 i0_3 (.int .i64 0) 1 8 Try.underlying38 hi_3 hz0_3 hz1_3 hz2_3 rfl (by decide) At_35_p429 ct_35_p429 t_35.length _ rfl Pt_35_p429_p431.out ⟨wt_35_p429.heap.size, 0, none⟩ 1 [.int .i64 n_1] rfl rfl h3t_38_p432 (one_cells rfl) h1t_38_p432 h2t_38_p432 hst_38_p432 ?_
                     intro vt_38_p432 wt_38_p432 ot_38_p432 gt_38_p432 yt_38_p432
                     obtain ⟨qt_38_p432, ct_38_p432, rfl, pt_38_p432⟩ := own_push hht_38.out (Go.Proofs.Ytihibckijdfidaa.HelpInt.iv_snoc _ _) rfl ot_38_p432
                     have Pt_38_p432 := Lib.hid pt_38_p432
                     have Yt_38_p432 := Lib.hid yt_38_p432
                     have Gt_38_p432 := Lib.hid gt_38_p432
                     have HBwt_38_p432 := Lib.hid (HBw_t_37_p431.out.grown Gt_38_p432.out hst_38_p432 (fun q hq => (Pt_35_p429_p431.out.lt q hq).1))
                     have Dt_38_t_37_p432 : Hid (Apart (some ⟨qt_38_p432, 0, none⟩) _) := Lib.hid (apart_app (Apart.symm Dt_37_t_35_p431.out) (fun a_ ha_ => (own_lt Ot_37_p431.out a_ ha_).2) Yt_38_p432.out)
                     have ct_9_0__430_p431_p432 := cell_other ct_9_0__430_p431 Gt_38_p432.out (apart_old Pt_35_p429_p431.out ltt_9)
                     have Ot_37_p431_p432 := Lib.hid (own_other Ot_37_p431.out Gt_38_p432.out (Apart.symm Dt_37_t_35_p431.out)))
                  | (have hst_42_p433 := HBwt_38_p432.out.size
                     have Ct_42_p433 := Lib.hid ((Cells.below Mt_41.out HBwt_38_p432.out))
                     have h1t_42_p433 : t_38.length + t_41.length ≤ maxLen := by have h_ := hlt_42; unfold maxLen; omega
                     have h2t_42_p433 : (t_38.length + t_41.length) * 8 ≤ 140737488355328 := by have h_ := hlt_42; omega
                     refine Go.Proofs.Ytihibckijdfidaa.GoH.step_spread_own (w := wt_38_p432) rfl (.tmp 40) (.tmp 43) 38 rfl w.heap.size 3 i0_3 (.int .i64 0) 1 8 Try.underlying38 hi_3 hz0_3 hz1_3 hz2_3 rfl (by decide) (some ⟨qt_38_p432, 0, none⟩) ct_38_p432 t_38.length _ rfl Pt_38_p432.out At_41 t_41.length ct_41 (Go.Proofs.Ytihibckijdfidaa.HelpInt.iv t_41) rfl Qt_41.out Ct_42_p433.out (fun u hu => by unfold Go.Proofs.Ytihibckijdfidaa.HelpInt.iv at hu; obtain ⟨y_, _, rfl⟩ := List.mem_map.1 hu; rfl) h1t_42_p433 h2t_42_p433 hst_42_p433 ?_
                     intro vt_42_p433 wt_42_p433 ot_42_p433 gt_42_p433 yt_42_p433
                     obtain ⟨At_42_p433, ct_42_p433, rfl, pt_42_p433⟩ := own_pushS (f := Go.Proofs.Ytihibckijdfidaa.HelpInt.iv) hht_42.out (by simp [Go.Proofs.Ytihibckijdfidaa.HelpInt.iv]) rfl ot_42_p433
                     have Pt_42_p433 := Lib.hid pt_42_p433
                     have Yt_42_p433 := Lib.hid yt_42_p433
                     have Gt_42_p433 := Lib.hid gt_42_p433
                     have HBwt_42_p433 := Lib.hid (HBwt_38_p432.out.grown Gt_42_p433.out hst_42_p433 (fun q hq => (Pt_38_p432.out.lt q hq).1))
                     have ct_9_0__430_p431_p432_p433 := cell_other ct_9_0__430_p431_p432 Gt_42_p433.out (apart_old Pt_38_p432.out ltt_9))
                  | (have hst_35_p436 := HBw_t_37_p435.out.size
                     have Ct_35_p436 := Lib.hid ((Cells.below Mt_34.out HBw_t_37_p435.out))
                     have h1t_35_p436 : 0 + t_34.length ≤ maxLen := by have h_ := hlt_35; simp only [List.length_nil] at h_; unfold maxLen; omega
                     have h2t_35_p436 : (0 + t_34.length) * 8 ≤ 140737488355328 := by have h_ := hlt_35; simp only [List.length_nil] at h_; omega
                     refine Go.Proofs.Ytihibckijdfidaa.GoH.step_spread_own (w := w_t_37_p435) rfl (.tmp 33) (.tmp 36) 38 rfl w.heap.size 3 i0_3 (.int .i64 0) 1 8 Try.underlying38 hi_3 hz0_3 hz1_3 hz2_3 rfl (by decide) (some ⟨wr0.heap.size, 0, none⟩) 0 0 _ rfl Ot_31_p428_p435.out (some ⟨ab_t_9, ao_t_9, none⟩) t_34.length c0 (Go.Proofs.Ytihibckijdfidaa.HelpInt.iv t_34) rfl Qt_34.out Ct_35_p436.out (fun u hu => by unfold Go.Proofs.Ytihibckijdfidaa.HelpInt.iv at hu; obtain ⟨y_, _, rfl⟩ := List.mem_map.1 hu; rfl) h1t_35_p436 h2t_35_p436 hst_35_p436 ?_
                     intro vt_35_p436 wt_35_p436 ot_35_p436 gt_35_p436 yt_35_p436
                     obtain ⟨At_35_p436, ct_35_p436, rfl, pt_35_p436⟩ := own_pushS (f := Go.Proofs.Ytihibckijdfidaa.HelpInt.iv) hht_35.out (by simp [Go.Proofs.Ytihibckijdfidaa.HelpInt.iv]) rfl ot_35_p436
                     have Pt_35_p436 := Lib.hid pt_35_p436
                     have Yt_35_p436 := Lib.hid yt_35_p436
                     have Gt_35_p436 := Lib.hid gt_35_p436
                     have HBwt_35_p436 := Lib.hid (HBw_t_37_p435.out.grown Gt_35_p436.out hst_35_p436 (fun q hq => (Ot_31_p428_p435.out.lt q hq).1))
                     have Dt_35_t_37_p436 : Hid (Apart At_35_p436 _) := Lib.hid (apart_app (Apart.symm Dt_37_t_31_p435.out) (fun a_ ha_ => (own_lt Ot_37_p435.out a_ ha_).2) Yt_35_p436.out)
                     have ct_9_0__434_p435_p436 := cell_other ct_9_0__434_p435 Gt_35_p436.out (apart_old Ot_31_p428_p435.out ltt_9)
                     have Ot_37_p435_p436 := Lib.hid (own_other Ot_37_p435.out Gt_35_p436.out (Apart.symm Dt_37_t_31_p435.out)))
                  | (have hst_38_p437 := HBwt_35_p436.out.size
                     have h1t_38_p437 : t_35.length + 1 ≤ maxLen := by unfold maxLen; omega
                     have h2t_38_p437 : (t_35.length + 1) * 8 ≤ 140737488355328 := by omega
                     have h3t_38_p437 := Ot_37_p435_p436.out.cells rfl
                     refine Go.Proofs.Ytihibckijdfidaa.GoH.step_append_own (w := wt_35_p436) rfl (.tmp 37) (.tmp 39) 38 rfl w.heap.size 3 i0_3 (.int .i64 0) 1 8 Try.underlying38 hi_3 hz0_3 hz1_3 hz2_3 rfl (by decide) At_35_p436 ct_35_p436 t_35.length _ rfl Pt_35_p436.out ⟨w_t_31_p428.heap.size, 0, none⟩ 1 [.int .i64 n_1] rfl rfl h3t_38_p437 (one_cells rfl) h1t_38_p437 h2t_38_p437 hst_38_p437 ?_
                     intro vt_38_p437 wt_38_p437 ot_38_p437 gt_38_p437 yt_38_p437
                     obtain ⟨qt_38_p437, ct_38_p437, rfl, pt_38_p437⟩ := own_push hht_38.out (Go.Proofs.Ytihibckijdfidaa.HelpInt.iv_snoc _ _) rfl ot_38_p437
                     have Pt_38_p437 := Lib.hid pt_38_p437
                     have Yt_38_p437 := Lib.hid yt_38_p437
                     have Gt_38_p437 := Lib.hid gt_38_p437
                     have HBwt_38_p437 := Lib.hid (HBwt_35_p436.out.grown Gt_38_p437.out hst_38_p437 (fun q hq => (Pt_35_p436.out.lt q hq).1))
                     have Dt_38_t_37_p437 : Hid (Apart (some ⟨qt_38_p437, 0, none⟩) _) := Lib.hid (apart_app Dt_35_t_37_p436.out (fun a_ ha_ => (own_lt Ot_37_p435_p436.out a_ ha_).2) Yt_38_p437.out)
                     have ct_9_0__434_p435_p436_p437 := cell_other ct_9_0__434_p435_p436 Gt_38_p437.out (apart_old Pt_35_p436.out ltt_9)
                     have Ot_37_p435_p436_p437 := Lib.hid (own_other Ot_37_p435_p436.out Gt_38_p437.out Dt_35_t_37_p436.out))
                  | (have hst_42_p438 := HBwt_38_p437.out.size
                     have Ct_42_p438 := Lib.hid ((Cells.below Mt_41.out HBwt_38_p437.out))
                     have h1t_42_p438 : t_38.length + t_41.length ≤ maxLen := by have h_ := hlt_42; unfold maxLen; omega
                     have h2t_42_p438 : (t_38.length + t_41.length) * 8 ≤ 140737488355328 := by have h_ := hlt_42; omega
                     refine Go.Proofs.Ytihibckijdfidaa.GoH.step_spread_own (w := wt_38_p437) rfl (.tmp 40) (.tmp 43) 38 rfl w.heap.size 3 i0_3 (.int .i64 0) 1 8 Try.underlying38 hi_3 hz0_3 hz1_3 hz2_3 rfl (by decide) (some ⟨qt_38_p437, 0, none⟩) ct_38_p437 t_38.length _ rfl Pt_38_p437.out At_41 t_41.length ct_41 (Go.Proofs.Ytihibckijdfidaa.HelpInt.iv t_41) rfl Qt_41.out Ct_42_p438.out (fun u hu => by unfold Go.Proofs.Ytihibckijdfidaa.HelpInt.iv at hu; obtain ⟨y_, _, rfl⟩ := List.mem_map.1 hu; rfl) h1t_42_p438 h2t_42_p438 hst_42_p438 ?_
                     intro vt_42_p438 wt_42_p438 ot_42_p438 gt_42_p438 yt_42_p438
                     obtain ⟨At_42_p438, ct_42_p438, rfl, pt_42_p438⟩ := own_pushS (f := Go.Proofs.Ytihibckijdfidaa.HelpInt.iv) hht_42.out (by simp [Go.Proofs.Ytihibckijdfidaa.HelpInt.iv]) rfl ot_42_p438
                     have Pt_42_p438 := Lib.hid pt_42_p438
                     have Yt_42_p438 := Lib.hid yt_42_p438
                     have Gt_42_p438 := Lib.hid gt_42_p438
                     have HBwt_42_p438 := Lib.hid (HBwt_38_p437.out.grown Gt_42_p438.out hst_42_p438 (fun q hq => (Pt_38_p437.out.lt q hq).1))
                     have ct_9_0__434_p435_p436_p437_p438 := cell_other ct_9_0__434_p435_p436_p437 Gt_42_p438.out (apart_old Pt_38_p437.out ltt_9))
                  | (have hst_35_p443 := HBw_t_31_p442.out.size
                     have Ct_35_p443 := Lib.hid ((Cells.below Mt_34.out HBw_t_31_p442.out))
                     have h1t_35_p443 : 0 + t_34.length ≤ maxLen := by have h_ := hlt_35; simp only [List.length_nil] at h_; unfold maxLen; omega
                     have h2t_35_p443 : (0 + t_34.length) * 8 ≤ 140737488355328 := by have h_ := hlt_35; simp only [List.length_nil] at h_; omega
                     refine Go.Proofs.Ytihibckijdfidaa.GoH.step_spread_own (w := w_t_31_p442) rfl (.tmp 33) (.tmp 36) 38 rfl w.heap.size 3 i0_3 (.int .i64 0) 1 8 Try.underlying38 hi_3 hz0_3 hz1_3 hz2_3 rfl (by decide) (some ⟨w_t_37_p440.heap.size, 0, none⟩) 0 0 _ rfl Ot_31_p442.out (some ⟨ab_t_9, ao_t_9, none⟩) t_34.length c0 (Go.Proofs.Ytihibckijdfidaa.HelpInt.iv t_34) rfl Qt_34.out Ct_35_p443.out (fun u hu => by unfold Go.Proofs.Ytihibckijdfidaa.HelpInt.iv at hu; obtain ⟨y_, _, rfl⟩ := List.mem_map.1 hu; rfl) h1t_35_p443 h2t_35_p443 hst_35_p443 ?_
                     intro vt_35_p443 wt_35_p443 ot_35_p443 gt_35_p443 yt_35_p443
                     obtain ⟨At_35_p443, ct_35_p443, rfl, pt_35_p443⟩ := own_pushS (f := Go.Proofs.Ytihibckijdfidaa.HelpInt.iv) hht_35.out (by simp [Go.Proofs.Ytihibckijdfidaa.HelpInt.iv]) rfl ot_35_p443
                     have Pt_35_p443 := Lib.hid pt_35_p443
                     have Yt_35_p443 := Lib.hid yt_35_p443
                     have Gt_35_p443 := Lib.hid gt_35_p443
                     have HBwt_35_p443 := Lib.hid (HBw_t_31_p442.out.grown Gt_35_p443.out hst_35_p443 (fun q hq => (Ot_31_p442.out.lt q hq).1))
                     have Dt_35_t_37_p443 : Hid (Apart At_35_p443 _) := Lib.hid (apart_app Dt_31_t_37_p442.out (fun a_ ha_ => (own_lt Ot_37_p440_p442.out a_ ha_).2) Yt_35_p443.out)
                     have ct_9_0__441_p442_p443 := cell_other ct_9_0__441_p442 Gt_35_p443.out (apart_old Ot_31_p442.out ltt_9)
                     have Ot_37_p440_p442_p443 := Lib.hid (own_other Ot_37_p440_p442.out Gt_35_p443.out Dt_31_t_37_p442.out))
                  | (have hst_38_p444 := HBwt_35_p443.out.size
                     have h1t_38_p444 : t_35.length + 1 ≤ maxLen := by unfold maxLen; omega
                     have h2t_38_p444 : (t_35.length + 1) * 8 ≤ 140737488355328 := by omega
                     have h3t_38_p444 := Ot_37_p440_p442_p443.out.cells rfl
                     refine Go.Proofs.Ytihibckijdfidaa.GoH.step_append_own (w := wt_35_p443) rfl (.tmp 37) (.tmp 39) 38 rfl w.heap.size 3 i0_3 (.int .i64 0) 1 8 Try.underlying38 hi_3 hz0_3 hz1_3 hz2_3 rfl (by decide) At_35_p443 ct_35_p443 t_35.length _ rfl Pt_35_p443.out ⟨wr0.heap.size, 0, none⟩ 1 [.int .i64 n_1] rfl rfl h3t_38_p444 (one_cells rfl) h1t_38_p444 h2t_38_p444 hst_38_p444 ?_
                     intro vt_38_p444 wt_38_p444 ot_38_p444 gt_38_p444 yt_38_p444
                     obtain ⟨qt_38_p444, ct_38_p444, rfl, pt_38_p444⟩ := own_push hht_38.out (Go.Proofs.Ytihibckijdfidaa.HelpInt.iv_snoc _ _) rfl ot_38_p444
                     have Pt_38_p444 := Lib.hid pt_38_p444
                     have Yt_38_p444 := Lib.hid yt_38_p444
                     have Gt_38_p444 := Lib.hid gt_38_p444
                     have HBwt_38_p444 := Lib.hid (HBwt_35_p443.out.grown Gt_38_p444.out hst_38_p444 (fun q hq => (Pt_35_p443.out.lt q hq).1))
                     have Dt_38_t_37_p444 : Hid (Apart (some ⟨qt_38_p444, 0, none⟩) _) := Lib.hid (apart_app Dt_35_t_37_p443.out (fun a_ ha_ => (own_lt Ot_37_p440_p442_p443.out a_ ha_).2) Yt_38_p444.out)
                     have ct_9_0__441_p442_p443_p444 := cell_other ct_9_0__441_p442_p443 Gt_38_p444.out (apart_old Pt_35_p443.out ltt_9)
                     have Ot_37_p440_p442_p443_p444 := Lib.hid (own_other Ot_37_p440_p442_p443.out Gt_38_p444.out Dt_35_t_37_p443.out))
                  | (have hst_42_p445 := HBwt_38_p444.out.size
                     have Ct_42_p445 := Lib.hid ((Cells.below Mt_41.out HBwt_38_p444.out))
                     have h1t_42_p445 : t_38.length + t_41.length ≤ maxLen := by have h_ := hlt_42; unfold maxLen; omega
                     have h2t_42_p445 : (t_38.length + t_41.length) * 8 ≤ 140737488355328 := by have h_ := hlt_42; omega
                     refine Go.Proofs.Ytihibckijdfidaa.GoH.step_spread_own (w := wt_38_p444) rfl (.tmp 40) (.tmp 43) 38 rfl w.heap.size 3 i0_3 (.int .i64 0) 1 8 Try.underlying38 hi_3 hz0_3 hz1_3 hz2_3 rfl (by decide) (some ⟨qt_38_p444, 0, none⟩) ct_38_p444 t_38.length _ rfl Pt_38_p444.out At_41 t_41.length ct_41 (Go.Proofs.Ytihibckijdfidaa.HelpInt.iv t_41) rfl Qt_41.out Ct_42_p445.out (fun u hu => by unfold Go.Proofs.Ytihibckijdfidaa.HelpInt.iv at hu; obtain ⟨y_, _, rfl⟩ := List.mem_map.1 hu; rfl) h1t_42_p445 h2t_42_p445 hst_42_p445 ?_
                     intro vt_42_p445 wt_42_p445 ot_42_p445 gt_42_p445 yt_42_p445
                     obtain ⟨At_42_p445, ct_42_p445, rfl, pt_42_p445⟩ := own_pushS (f := Go.Proofs.Ytihibckijdfidaa.HelpInt.iv) hht_42.out (by simp [Go.Proofs.Ytihibckijdfidaa.HelpInt.iv]) rfl ot_42_p445
                     have Pt_42_p445 := Lib.hid pt_42_p445
                     have Yt_42_p445 := Lib.hid yt_42_p445
                     have Gt_42_p445 := Lib.hid gt_42_p445
                     have HBwt_42_p445 := Lib.hid (HBwt_38_p444.out.grown Gt_42_p445.out hst_42_p445 (fun q hq => (Pt_38_p444.out.lt q hq).1))
                     have ct_9_0__441_p442_p443_p444_p445 := cell_other ct_9_0__441_p442_p443_p444 Gt_42_p445.out (apart_old Pt_38_p444.out ltt_9)))
            · skip
              obtain rfl := ret_hid H
              go_wp2_with fail
              go_ret
              exact ⟨At_42_p433, ct_42_p433, rfl, (Lib.hid (.inr Pt_42_p433.out)), HBwt_42_p433.out⟩
            · skip
              obtain rfl := ret_hid H
              go_wp2_with fail
              go_ret
              exact ⟨At_42_p438, ct_42_p438, rfl, (Lib.hid (.inr Pt_42_p438.out)), HBwt_42_p438.out⟩
            · skip
              obtain rfl := ret_hid H
              go_wp2_with fail
              go_ret
              exact ⟨At_42_p445, ct_42_p445, rfl, (Lib.hid (.inr Pt_42_p445.out)), HBwt_42_p445.out⟩
          | true =>
            replace H := ite_t H
            obtain rfl := ret_hid H
            go_wp2_with fail
            go_ret
            exact ⟨_, _, rfl, (Lib.hid (.inl (by first | exact ⟨rfl, rfl, rfl⟩ | exact ⟨rfl, rfl⟩))), HBwr0.out⟩
        | true =>
          replace H := ite_t H
          replace H := let_hid H
          obtain ⟨t_15, ht_15, H⟩ := H
          replace H := app_hid H
          go_wp2_with fail
          go_roundg m0
          case measure => omega
          case rel => exact ⟨_, rfl, H, HBwr0⟩

theorem C (fuel : Nat) (l : (List Int)) (n_1 : Int) (A0 : Option Addr) (c0 : Nat)  (b0 : Nat) (w : World) (M0 : Hid (w.ownsRow b0 3 1 (.slice A0 l.length c0) l.length (Go.Proofs.Ytihibckijdfidaa.HelpInt.iv l))) (N0 : Hid (l.length ≤ 9223372036854775807)) (Q0 : Hid (Room A0 l.length c0))  (LB : Hid (b0 ≤ w.heap.size)) {r : (List Int)} (H : Hid (P fuel l n_1 = some r)) :
    Calls Try.prog 203 #[.slice A0 l.length c0, .int .i64 n_1] w (fun e w' => ∃ A_r c_r, e = .returned (.slice A_r r.length c_r) ∧ w'.ownsRow b0 3 1 (.slice A_r r.length c_r) r.length (Go.Proofs.Ytihibckijdfidaa.HelpInt.iv r) ∧ w.grownBy w' (Value.slice A0 l.length c0).ownBlock ∧ Go.Proofs.Ytihibckijdfidaa.GoK.From w A0 A_r) := by
  refine (C1 fuel l n_1 A0 c0 w (Lib.hid (own_cells M0.out)) N0 Q0 H).mono ?_; rintro e_ w_ ⟨A_, c_, rfl, h_, hb_⟩
  rcases h_.out with ⟨h1_, h2_, h3_⟩ | h_
  · refine ⟨_, _, rfl, ?_, grown_below (Aid.grown_refl _ _) hb_, ?_⟩
    · rw [h1_, h2_, h3_]; exact own_below M0.out hb_
    · rw [h1_]; exact Go.Proofs.Ytihibckijdfidaa.GoK.from_self
  · exact ⟨_, _, rfl, Go.Proofs.Ytihibckijdfidaa.GoK.own_baseM LB.out h_, grown_below (Aid.grown_refl _ _) hb_, Go.Proofs.Ytihibckijdfidaa.GoK.from_own h_⟩
end Go.Proofs.Ytihibckijdfidaa.GsL1Put

namespace Go.Proofs.Ytihibckijdfidaa.Q12Put
open Go.RowKit
open Go.Proofs.Ytihibckijdfidaa.GoP Go.Proofs.Ytihibckijdfidaa.PlainStamp Go.Proofs.Ytihibckijdfidaa.QBase Go.Proofs.Ytihibckijdfidaa.QUp Go.Proofs.Ytihibckijdfidaa.QLoop

theorem cut_at (l : List Int) (n : Int) : ∃ k, k ≤ l.length ∧ (∀ i y, i < k → l[i]? = some y → y < n) ∧ (∀ y, l[k]? = some y → n ≤ y) := by
  induction l with
  | nil => exact ⟨0, by simp, by simp, by simp⟩
  | cons x l ih =>
    by_cases hx : x < n
    · obtain ⟨k, h1, h2, h3⟩ := ih
      refine ⟨k + 1, by simp; omega, ?_, ?_⟩
      · intro i y hi hy
        cases i with
        | zero => simp at hy; omega
        | succ i => exact h2 i y (by omega) (by simpa using hy)
      · intro y hy; exact h3 y (by simpa using hy)
    · exact ⟨0, by simp, by simp, by intro y hy; simp at hy; omega⟩
theorem put_eq {fuel : Nat} {l : List Int} (hl : l.length ≤ 1000) (hu : List.Pairwise (fun a b => a < b) l) (n : Int) (hf : l.length < fuel) : ∃ m, GsL1Put.P fuel l n = some m ∧ List.Pairwise (fun a b => a < b) m ∧ (∀ x, x ∈ m ↔ x = n ∨ x ∈ l) ∧ m.length ≤ l.length + 1 := by
  obtain ⟨k, hk, hlo, hhi⟩ := cut_at l n
  have htk : ∀ x ∈ l.take k, x < n := by
    intro x hx
    obtain ⟨i, hi⟩ := List.getElem?_of_mem hx
    rw [List.getElem?_take] at hi
    split at hi
    · rename_i h; exact hlo i x h hi
    · simp at hi
  have hnext : ∀ r : List Int, GsL1Put.e0 l n (k : Int) = some r → GsL1Put.P fuel l n = some r := by
    intro r hr
    simp only [GsL1Put.P]
    refine lp_is (n := k) _ (fun i (s : Int) => s = (i : Int)) ?_ ?_ fuel 0 _ (by omega) (by omega) rfl
    · rintro i s nx hi rfl hn
      obtain ⟨x, hx, hxi⟩ := at_lt (l := l) (k := i) (by omega)
      have hlt := hlo i x hi hx
      have h1 : (i : Int) < (l.length : Int) := by omega
      simp only [GsL1Put.l0, letK, joinK, appK, iteK_if, decide_eq_true h1, if_true, hxi, Option.bind_some, decide_eq_true hlt]
      exact hn _ (by rw [wrap_in (by omega) (by omega)]; omega)
    · rintro s nx rfl
      by_cases hkl : k < l.length
      · obtain ⟨x, hx, hxi⟩ := at_lt (l := l) (k := k) hkl
        have hge := hhi x hx
        have h1 : (k : Int) < (l.length : Int) := by omega
        have h2 : ¬ x < n := by omega
        simp only [GsL1Put.l0, letK, joinK, appK, iteK_if, decide_eq_true h1, if_true, hxi, Option.bind_some, decide_eq_false h2, Bool.false_eq_true, if_false]
        exact hr
      · have h1 : ¬ (k : Int) < (l.length : Int) := by omega
        simp only [GsL1Put.l0, letK, joinK, appK, iteK_if, decide_eq_false h1, Bool.false_eq_true, if_false]
        exact hr
  have hsplit : l.take k ++ l.drop k = l := List.take_append_drop k l
  have hput : (∀ x, l[k]? = some x → x ≠ n) → ∃ m, GsL1Put.e0 l n (k : Int) = some m ∧ List.Pairwise (fun a b => a < b) m ∧ (∀ x, x ∈ m ↔ x = n ∨ x ∈ l) ∧ m.length ≤ l.length + 1 := by
    intro hne
    have hdr : ∀ x ∈ l.drop k, n < x := by
      intro x hx
      by_cases hkl : k < l.length
      · rw [List.drop_eq_getElem_cons hkl] at hx
        have h0 : l[k]? = some l[k] := List.getElem?_eq_getElem hkl
        have h1 := hhi _ h0
        have h2 := hne _ h0
        rcases List.mem_cons.1 hx with rfl | hx
        · omega
        · rw [← hsplit, List.drop_eq_getElem_cons hkl, List.pairwise_append, List.pairwise_cons] at hu
          have := hu.2.1.1 x hx
          omega
      · rw [List.drop_of_length_le (by omega)] at hx; simp at hx
    refine ⟨l.take k ++ [n] ++ l.drop k, ?_, ?_, ?_, ?_⟩
    · have h5 : (l.take k).length ≤ 1000 := by rw [List.length_take]; omega
      have h6 : (l.drop k).length ≤ 1000 := by rw [List.length_drop]; omega
      have hres : (guardK ((0 : Int) ≤ (k : Int) ∧ (k : Int) ≤ (l.length : Int)) <|
          guardK (([] : List Int).length + (List.take (Int.toNat (k : Int)) l).length ≤ 1099511627776) <|
          guardK ((([] : List Int) ++ List.take (Int.toNat (k : Int)) l).length ≤ 1099511627776) <|
          guardK ((0 : Int) ≤ (k : Int) ∧ (k : Int) ≤ (l.length : Int)) <|
          guardK ((([] : List Int) ++ List.take (Int.toNat (k : Int)) l ++ [n]).length + (List.drop (Int.toNat (k : Int)) l).length ≤ 1099511627776) <|
          some (([] : List Int) ++ List.take (Int.toNat (k : Int)) l ++ [n] ++ List.drop (Int.toNat (k : Int)) l)) = some (l.take k ++ [n] ++ l.drop k) := by
        rw [Int.toNat_natCast, guardK_pos (by omega), guardK_pos (by simp; omega), guardK_pos (by simp; omega), guardK_pos (by omega), guardK_pos (by simp only [List.nil_append, List.length_append, List.length_singleton]; omega), List.nil_append]
      by_cases hkl : k < l.length
      · obtain ⟨x, hx, hxi⟩ := at_lt (l := l) (k := k) hkl
        have h1 : (k : Int) < (l.length : Int) := by omega
        have h2 : (x == n) = false := by simpa using hne x hx
        simp only [GsL1Put.e0, letK, joinK, appK, iteK_if, decide_eq_true h1, if_true, hxi, Option.bind_some, h2, Bool.false_eq_true, if_false]
        exact hres
      · have h1 : ¬ (k : Int) < (l.length : Int) := by omega
        simp only [GsL1Put.e0, letK, joinK, appK, iteK_if, decide_eq_false h1, Bool.false_eq_true, if_false]
        exact hres
    · rw [← hsplit, List.pairwise_append] at hu
      rw [List.append_assoc, List.pairwise_append]
      refine ⟨hu.1, ?_, ?_⟩
      · rw [List.singleton_append, List.pairwise_cons]; exact ⟨hdr, hu.2.1⟩
      · intro a ha b hb
        rw [List.singleton_append, List.mem_cons] at hb
        have h1 := htk a ha
        rcases hb with rfl | hb
        · exact h1
        · have := hdr b hb; omega
    · intro x
      have hm : x ∈ l ↔ x ∈ l.take k ∨ x ∈ l.drop k := by rw [← List.mem_append, hsplit]
      rw [hm, List.mem_append, List.mem_append, List.mem_singleton]
      constructor
      · rintro ((h | h) | h)
        · exact .inr (.inl h)
        · exact .inl h
        · exact .inr (.inr h)
      · rintro (h | h | h)
        · exact .inl (.inr h)
        · exact .inl (.inl h)
        · exact .inr h
    · simp only [List.length_append, List.length_take, List.length_drop, List.length_singleton]; omega
  by_cases hin : ∃ x, l[k]? = some x ∧ x = n
  · obtain ⟨x, hx, rfl⟩ := hin
    refine ⟨l, hnext l ?_, hu, ?_, by omega⟩
    · have hkl := (List.getElem?_eq_some_iff.1 hx).1
      have hxi : idx l (k : Int) = some x := by rw [idx_nat, hx]
      have h1 : (k : Int) < (l.length : Int) := by omega
      simp only [GsL1Put.e0, letK, joinK, appK, iteK_if, decide_eq_true h1, if_true, hxi, Option.bind_some, beq_self_eq_true]
    · intro y
      constructor
      · intro h; exact .inr h
      · rintro (rfl | h)
        · exact List.mem_of_getElem? hx
        · exact h
  · obtain ⟨m, h1, h2⟩ := hput (fun x hx e => hin ⟨x, hx, e⟩)
    exact ⟨m, hnext m h1, h2⟩
end Go.Proofs.Ytihibckijdfidaa.Q12Put

namespace Go.Proofs.Ytihibckijdfidaa.GoS
open Go.RowKit
open Go.Proofs.Ytihibckijdfidaa.Turn Go.Proofs.Ytihibckijdfidaa.GoM
theorem own_holds {b T n c g : Nat} {w : World} {l : List Int} (hn : l.length = n) (h : w.ownsRow b T 1 (.slice (some ⟨g, 0, none⟩) n c) n (Go.Proofs.Ytihibckijdfidaa.HelpInt.iv l)) : Sort.Holds (Value.int .i64) w g 0 l.toArray := by
  intro j hj
  have hj' : j < l.length := by simpa using hj
  refine ⟨?_, h.frozenAt _⟩
  obtain ⟨ad, ea, hc⟩ := (own_cells h).2 (by unfold Go.Proofs.Ytihibckijdfidaa.HelpInt.iv; rw [List.length_map]; omega)
  obtain rfl := Option.some.inj ea
  have hu : (Go.Proofs.Ytihibckijdfidaa.HelpInt.iv l)[j]? = some (.int .i64 l[j]) := by unfold Go.Proofs.Ytihibckijdfidaa.HelpInt.iv; simp [hj']
  have := hc j _ hu
  rw [add_flat] at this
  simp only [Nat.zero_add] at this ⊢
  rw [this]
  simp [hj']
theorem own_put {b T n c g : Nat} {w : World} {l m : List Int} (hn : l.length = n) (hm : m.length = n) (h : w.ownsRow b T 1 (.slice (some ⟨g, 0, none⟩) n c) n (Go.Proofs.Ytihibckijdfidaa.HelpInt.iv l)) (q : Nat) :
    (Sort.putRow (Value.int .i64) (Sort.ahead w q) g 0 m.toArray).ownsRow b T 1 (.slice (some ⟨g, 0, none⟩) n c) n (Go.Proofs.Ytihibckijdfidaa.HelpInt.iv m) ∧ w.grownBy (Sort.putRow (Value.int .i64) (Sort.ahead w q) g 0 m.toArray) (some g) := by
  have hH := own_holds hn h
  rw [Lib.putRow_eq_setCells (Value.int .i64) w g 0 l.toArray m q hH (by simp; omega)]
  have hd : w.grownBy (w.drewN q) (some g) := ⟨rfl, rfl, rfl, Nat.le_refl _, fun _ _ _ => rfl⟩
  have h0 : w.grownBy (w.drewN q) none := ⟨rfl, rfl, rfl, Nat.le_refl _, fun _ _ _ => rfl⟩
  have h1 := h.kept h0 (by simp [Value.ownBlock])
  have hl : (Go.Proofs.Ytihibckijdfidaa.HelpInt.iv l).length = n := by unfold Go.Proofs.Ytihibckijdfidaa.HelpInt.iv; simp [hn]
  have h2 := Go.Proofs.Ytihibckijdfidaa.GoK.own_setCells (m.map (Value.int .i64)) 0 h1 (by rw [List.length_map]; omega)
  have e : (Go.Proofs.Ytihibckijdfidaa.HelpInt.iv l).take 0 ++ m.map (Value.int .i64) ++ (Go.Proofs.Ytihibckijdfidaa.HelpInt.iv l).drop (0 + (m.map (Value.int .i64)).length) = Go.Proofs.Ytihibckijdfidaa.HelpInt.iv m := by
    rw [List.length_map, Nat.zero_add, hm, List.drop_of_length_le (by omega)]
    simp [Go.Proofs.Ytihibckijdfidaa.HelpInt.iv]
  rw [e] at h2
  exact ⟨h2.1, Aid.grown_tr hd h2.2⟩
def bts (l : List ByteArray) : List (List UInt8) := l.map (·.data.toList)
def unb (l : List (List UInt8)) : List ByteArray := l.map fun x => ⟨x.toArray⟩
theorem grown_grow (w : World) (os : Array Obj) (r : Option Nat) : w.grownBy (Sort.grow w os) r := by
  refine ⟨rfl, rfl, rfl, by simp [Sort.grow], fun k hk _ => ?_⟩
  show (w.heap ++ os)[k]? = w.heap[k]?
  rw [Array.getElem?_append_left hk]
end Go.Proofs.Ytihibckijdfidaa.GoS

