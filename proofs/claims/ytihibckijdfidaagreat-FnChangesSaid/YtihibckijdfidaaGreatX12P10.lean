/- Texts on which the proofs of several laws stand, one behind the other (10 of 17). No condition of their own. -/
import Derived.Test.YtihibckijdfidaaGreatChecked
import Derived.Test.YtihibckijdfidaaGreatX12P1
import Derived.Test.YtihibckijdfidaaGreatX12P6
import Derived.WalkKit
import Derived.WalkSpells
import Derived.WalkLawsBesides
import Derived.BigQuiet
import Derived.OwnWalk
import Derived.Deep.LoopGhost
import Derived.Deep.QuietTactic
import Derived.IntWalk
import Derived.Lib.QuietBelow
import Derived.Deep.RegionHeld3
import Derived.Test.YtihibckijdfidaaGreatX12P5
set_option linter.unusedVariables false
set_option linter.unusedSimpArgs false
namespace Go.Proofs.YtihibckijdfidaaGreat.GsL1Put
open Go.RowKit
open Go.Proofs.YtihibckijdfidaaGreat.Rowed Go.Proofs.YtihibckijdfidaaGreat.Turn Go.Proofs.YtihibckijdfidaaGreat.Aid Go.Proofs.YtihibckijdfidaaGreat.GoP Go.Proofs.YtihibckijdfidaaGreat.GoM

def l0 (l : (List Int)) (n_1 : Int) (s : Int) (nx0 bk0 : Int → Option ((List Int))) : Option ((List Int)) :=
  letK s fun k_5l0 =>
  letK (decide (k_5l0 < (l.length : Int))) fun (t_5 : Bool) =>
  joinK (fun (t_13 : Bool) =>
  iteK t_13
  (letK (IntKind.i64.wrap (k_5l0 + 1)) fun (t_15 : Int) =>
  appK nx0 (t_15))
  (appK bk0 (k_5l0))) fun jt_13 => iteK t_5 (Option.bind (idx l k_5l0) fun (yt_9 : Int) =>
  letK (decide (yt_9 < n_1)) fun (t_12 : Bool) =>
  appK jt_13 t_12) (appK jt_13 false)

def e0 (l : (List Int)) (n_1 : Int) (s : Int) : Option ((List Int)) :=
  letK s fun k_5l0 =>
  letK (decide (k_5l0 < (l.length : Int))) fun (t_20 : Bool) =>
  joinK (fun (t_28 : Bool) =>
  iteK t_28
  (some l)
  (guardK ((0 : Int) ≤ k_5l0 ∧ (k_5l0 : Int) ≤ (l.length : Int)) <|
  letK (List.take (Int.toNat k_5l0) l) fun (t_34 : (List Int)) =>
  guardK (([] : List Int).length + t_34.length ≤ 1099511627776) <|
  letK (([] : List Int) ++ t_34) fun (t_35 : (List Int)) =>
  guardK (t_35.length ≤ 1099511627776) <|
  letK (t_35 ++ [n_1]) fun (t_38 : (List Int)) =>
  guardK ((0 : Int) ≤ k_5l0 ∧ (k_5l0 : Int) ≤ (l.length : Int)) <|
  letK (List.drop (Int.toNat k_5l0) l) fun (t_41 : (List Int)) =>
  guardK (t_38.length + t_41.length ≤ 1099511627776) <|
  letK (t_38 ++ t_41) fun (t_42 : (List Int)) =>
  some t_42)) fun jt_28 => iteK t_20 (Option.bind (idx l k_5l0) fun (yt_24 : Int) =>
  letK (yt_24 == n_1) fun (t_27 : Bool) =>
  appK jt_28 t_27) (appK jt_28 false)

def P (fuel : Nat) (l : (List Int)) (n_1 : Int) : Option ((List Int)) :=
  loopK (l0 l n_1) fuel (0) (e0 l n_1)

set_option maxRecDepth 100000 in
set_option maxHeartbeats 2000000 in
theorem C1 (fuel : Nat) (l : (List Int)) (n_1 : Int) (A0 : Option Addr) (c0 : Nat)  (w : World) (M0 : Hid (Cells w 1 A0 l.length (Go.Proofs.YtihibckijdfidaaGreat.HelpInt.iv l))) (N0 : Hid (l.length ≤ 9223372036854775807)) (Q0 : Hid (Room A0 l.length c0))  {r : (List Int)} (H : Hid (P fuel l n_1 = some r)) :
    Calls Tryz.prog 95 #[.slice A0 l.length c0, .int .i64 n_1] w (fun e w' => ∃ A_r c_r, e = .returned (.slice A_r r.length c_r) ∧ Hid ((A_r = A0 ∧ c_r = c0 ∧ r = l) ∨ w'.ownsRow w.heap.size 3 1 (.slice A_r r.length c_r) r.length (Go.Proofs.YtihibckijdfidaaGreat.HelpInt.iv r)) ∧ Below w.heap.size w w') := by
  have HB := Lib.hid (Below.refl w.heap.size w)
  unfold P at H
  have N0o := N0.out
  obtain ⟨i0_3, hi_3, hz0_3, hz1_3, hz2_3⟩ := Aid.info_parts (P := Tryz.prog) (T := 3) (z := .int .i64 0) (s := 1) (b := 8) (by kernel_rfl)
  go_enter Tryz.func95, Tryz.ntmps95
  go_wp2_with fail
  go_loopg [5] (fuel) (fun m_ v5_ wr => ∃ (k_5l0 : Int), v5_ = .int .i64 k_5l0 ∧ Hid (loopK (l0 l n_1) m_ (k_5l0) (e0 l n_1) = some r) ∧ Hid (Below w.heap.size w wr))
  case atStart => exact ⟨_, rfl, H, HB⟩
  case round =>
    obtain ⟨k_5l0, rfl, H, HBwr0⟩ := hrel
    rename World => wr0
    cases gk with
    | zero => exact (loop_zero H).elim
    | succ m0 =>
      replace H := loop_succ H
      unfold l0 at H
      replace H := let_hid H
      obtain ⟨_, rfl, H⟩ := H
      replace H := let_hid H
      obtain ⟨t_5, ht_5, H⟩ := H
      replace H := join_hid H
      cases t_5 with
      | false =>
        replace H := ite_f H
        replace H := app_hid H
        replace H := ite_f H
        replace H := app_hid H
        unfold e0 at H
        replace H := let_hid H
        obtain ⟨_, rfl, H⟩ := H
        replace H := let_hid H
        obtain ⟨t_20, ht_20, H⟩ := H
        obtain rfl := ht_5.symm.trans ht_20
        replace H := join_hid H
        replace H := ite_f H
        replace H := app_hid H
        replace H := ite_f H
        go_wp2_with fail
        have bd6 : Below wr0.heap.size wr0 wr0.drew := (Below.refl _ _).drew
        have HBwr0.drew := Lib.hid (Below.step HBwr0.out bd6)
        clear bd6
        replace H := guard_hid H
        obtain ⟨hl_t_34, H⟩ := H
        replace H := let_hid H
        obtain ⟨t_34, ht_34, H⟩ := H
        have dt_34 : ((Go.Proofs.YtihibckijdfidaaGreat.HelpInt.iv l)).take (Int.toNat k_5l0 * 1) = (Go.Proofs.YtihibckijdfidaaGreat.HelpInt.iv t_34) := by
          rw [← ht_34]
          simp [Go.Proofs.YtihibckijdfidaaGreat.HelpInt.iv, List.map_take]
        have nt_34 : Int.toNat k_5l0 = t_34.length := by rw [← ht_34, List.length_take]; omega
        obtain ⟨rt_34, Mt_34, Qt_34⟩ := slice_headB (P := Tryz.prog) (t := 31) (e := 3) (k := .i64) (by kernel_rfl) (by kernel_rfl) hi_3 hz1_3 M0.out Q0.out hl_t_34 nt_34 dt_34
        have Nt_34 : Hid (t_34.length ≤ 9223372036854775807) := Lib.hid (by have := N0.out; omega)
        replace Mt_34 := Lib.hid Mt_34
        replace Qt_34 := Lib.hid Qt_34
        clear dt_34 nt_34 hl_t_34
        have hht_34 := Lib.hid ht_34
        clear ht_34
        replace H := guard_hid H
        obtain ⟨hlt_35, H⟩ := H
        replace H := let_hid H
        obtain ⟨t_35, ht_35, H⟩ := H
        have hht_35 := Lib.hid ht_35
        clear ht_35
        replace H := guard_hid H
        obtain ⟨hlt_38, H⟩ := H
        replace H := let_hid H
        obtain ⟨t_38, ht_38, H⟩ := H
        have hht_38 := Lib.hid ht_38
        clear ht_38
        replace H := guard_hid H
        obtain ⟨hl_t_41, H⟩ := H
        replace H := let_hid H
        obtain ⟨t_41, ht_41, H⟩ := H
        have dt_41 : ((Go.Proofs.YtihibckijdfidaaGreat.HelpInt.iv l)).drop (Int.toNat k_5l0 * 1) = (Go.Proofs.YtihibckijdfidaaGreat.HelpInt.iv t_41) := by
          rw [← ht_41]
          simp [Go.Proofs.YtihibckijdfidaaGreat.HelpInt.iv, List.map_drop]
        have nt_41 : l.length - Int.toNat k_5l0 = t_41.length := by rw [← ht_41, List.length_drop]
        obtain ⟨At_41, ct_41, rt_41, Mt_41, Qt_41⟩ := slice_tail (P := Tryz.prog) (t := 31) (e := 3) (k := .i64) (by kernel_rfl) (by kernel_rfl) hi_3 hz1_3 M0.out Q0.out hl_t_41 nt_41 dt_41
        have Nt_41 : Hid (t_41.length ≤ 9223372036854775807) := Lib.hid (by have := N0.out; omega)
        replace Mt_41 := Lib.hid Mt_41
        replace Qt_41 := Lib.hid Qt_41
        clear dt_41 nt_41 hl_t_41
        have hht_41 := Lib.hid ht_41
        clear ht_41
        have Not_41 := Nt_41.out
        replace H := guard_hid H
        obtain ⟨hlt_42, H⟩ := H
        replace H := let_hid H
        obtain ⟨t_42, ht_42, H⟩ := H
        have hht_42 := Lib.hid ht_42
        clear ht_42
        obtain ⟨w_t_31_p1135, hw_t_31_p1135⟩ : ∃ x, wr0.drew.alloc (.cells #[] 3) = x := ⟨_, rfl⟩
        have bw_t_31_p1135 : Below wr0.drew.heap.size wr0.drew w_t_31_p1135 := by rw [← hw_t_31_p1135]; exact (Below.refl _ _).alloc (Nat.le_refl _) _
        have Ot_31_p1135 : Hid (w_t_31_p1135.ownsRow w.heap.size 3 1 (.slice (some ⟨wr0.heap.size, 0, none⟩) 0 0) 0 []) := Lib.hid (by rw [← hw_t_31_p1135]; exact own_empty HBwr0.drew.out.size)
        have HBw_t_31_p1135 := Lib.hid (Below.step HBwr0.drew.out bw_t_31_p1135)
        obtain ⟨w_t_37_p1140, hw_t_37_p1140⟩ : ∃ x, w_t_31_p1135.alloc (.cells #[.int .i64 n_1] 3) = x := ⟨_, rfl⟩
        have bw_t_37_p1140 : Below w_t_31_p1135.heap.size w_t_31_p1135 w_t_37_p1140 := by rw [← hw_t_37_p1140]; exact (Below.refl _ _).alloc (Nat.le_refl _) _
        have Ot_37_p1140 : Hid (w_t_37_p1140.ownsRow w.heap.size 3 1 (.slice (some ⟨w_t_31_p1135.heap.size, 0, none⟩) 1 1) 1 [.int .i64 n_1]) := Lib.hid (by rw [← hw_t_37_p1140]; exact own_laid (n := 1) HBw_t_31_p1135.out.size (rfl : ([.int .i64 n_1] : List Value) = [.int .i64 n_1]) rfl (by unfold maxLen; omega))
        have Dt_37_t_31_p1140 := Lib.hid (apart_fresh Ot_31_p1135.out)
        have HBw_t_37_p1140 := Lib.hid (Below.step HBw_t_31_p1135.out bw_t_37_p1140)
        have Ot_31_p1135_p1140 := Lib.hid (own_below Ot_31_p1135.out bw_t_37_p1140)
        obtain ⟨w_t_37_p1144, hw_t_37_p1144⟩ : ∃ x, wr0.drew.alloc (.cells #[.int .i64 n_1] 3) = x := ⟨_, rfl⟩
        have bw_t_37_p1144 : Below wr0.drew.heap.size wr0.drew w_t_37_p1144 := by rw [← hw_t_37_p1144]; exact (Below.refl _ _).alloc (Nat.le_refl _) _
        have Ot_37_p1144 : Hid (w_t_37_p1144.ownsRow w.heap.size 3 1 (.slice (some ⟨wr0.heap.size, 0, none⟩) 1 1) 1 [.int .i64 n_1]) := Lib.hid (by rw [← hw_t_37_p1144]; exact own_laid (n := 1) HBwr0.drew.out.size (rfl : ([.int .i64 n_1] : List Value) = [.int .i64 n_1]) rfl (by unfold maxLen; omega))
        have HBw_t_37_p1144 := Lib.hid (Below.step HBwr0.drew.out bw_t_37_p1144)
        obtain ⟨w_t_31_p1145, hw_t_31_p1145⟩ : ∃ x, w_t_37_p1144.alloc (.cells #[] 3) = x := ⟨_, rfl⟩
        have bw_t_31_p1145 : Below w_t_37_p1144.heap.size w_t_37_p1144 w_t_31_p1145 := by rw [← hw_t_31_p1145]; exact (Below.refl _ _).alloc (Nat.le_refl _) _
        have Ot_31_p1145 : Hid (w_t_31_p1145.ownsRow w.heap.size 3 1 (.slice (some ⟨w_t_37_p1144.heap.size, 0, none⟩) 0 0) 0 []) := Lib.hid (by rw [← hw_t_31_p1145]; exact own_empty HBw_t_37_p1144.out.size)
        have Dt_31_t_37_p1145 := Lib.hid (apart_fresh Ot_37_p1144.out)
        have HBw_t_31_p1145 := Lib.hid (Below.step HBw_t_37_p1144.out bw_t_31_p1145)
        have Ot_37_p1144_p1145 := Lib.hid (own_below Ot_37_p1144.out bw_t_31_p1145)
        go_region_held3 (fun w' => Hid (0 ≤ w'.heap.size)) (first | exact Lib.hid (Nat.zero_le _))
            (first
              | (have hst_35_p1136 := HBw_t_31_p1135.out.size
                 have Ct_35_p1136 := Lib.hid ((Cells.below Mt_34.out HBw_t_31_p1135.out))
                 have h1t_35_p1136 : 0 + t_34.length ≤ maxLen := by have h_ := hlt_35; simp only [List.length_nil] at h_; unfold maxLen; omega
                 have h2t_35_p1136 : (0 + t_34.length) * 8 ≤ 140737488355328 := by have h_ := hlt_35; simp only [List.length_nil] at h_; omega
                 refine Go.Proofs.YtihibckijdfidaaGreat.GoH.step_spread_own (w := w_t_31_p1135) rfl (.tmp 33) (.tmp 36) 31 rfl w.heap.size 3 i0_3 (.int .i64 0) 1 8 Tryz.underlying31 hi_3 hz0_3 hz1_3 hz2_3 rfl (by decide) (some ⟨wr0.heap.size, 0, none⟩) 0 0 _ rfl Ot_31_p1135.out A0 t_34.length c0 (Go.Proofs.YtihibckijdfidaaGreat.HelpInt.iv t_34) rfl Qt_34.out Ct_35_p1136.out (fun u hu => by unfold Go.Proofs.YtihibckijdfidaaGreat.HelpInt.iv at hu; obtain ⟨y_, _, rfl⟩ := List.mem_map.1 hu; rfl) h1t_35_p1136 h2t_35_p1136 hst_35_p1136 ?_
                 intro vt_35_p1136 wt_35_p1136 ot_35_p1136 gt_35_p1136 yt_35_p1136
                 obtain ⟨At_35_p1136, ct_35_p1136, rfl, pt_35_p1136⟩ := own_pushS (f := Go.Proofs.YtihibckijdfidaaGreat.HelpInt.iv) hht_35.out (by simp [Go.Proofs.YtihibckijdfidaaGreat.HelpInt.iv]) rfl ot_35_p1136
                 have Pt_35_p1136 := Lib.hid pt_35_p1136
                 have Yt_35_p1136 := Lib.hid yt_35_p1136
                 have Gt_35_p1136 := Lib.hid gt_35_p1136
                 have HBwt_35_p1136 := Lib.hid (HBw_t_31_p1135.out.grown Gt_35_p1136.out hst_35_p1136 (fun q hq => (Ot_31_p1135.out.lt q hq).1))
                 obtain ⟨w_t_37_p1137, hw_t_37_p1137⟩ : ∃ x, wt_35_p1136.alloc (.cells #[.int .i64 n_1] 3) = x := ⟨_, rfl⟩
                 have bw_t_37_p1137 : Below wt_35_p1136.heap.size wt_35_p1136 w_t_37_p1137 := by rw [← hw_t_37_p1137]; exact (Below.refl _ _).alloc (Nat.le_refl _) _
                 have Ot_37_p1137 : Hid (w_t_37_p1137.ownsRow w.heap.size 3 1 (.slice (some ⟨wt_35_p1136.heap.size, 0, none⟩) 1 1) 1 [.int .i64 n_1]) := Lib.hid (by rw [← hw_t_37_p1137]; exact own_laid (n := 1) HBwt_35_p1136.out.size (rfl : ([.int .i64 n_1] : List Value) = [.int .i64 n_1]) rfl (by unfold maxLen; omega))
                 have Dt_37_t_35_p1137 := Lib.hid (apart_fresh Pt_35_p1136.out)
                 have HBw_t_37_p1137 := Lib.hid (Below.step HBwt_35_p1136.out bw_t_37_p1137)
                 have Pt_35_p1136_p1137 := Lib.hid (own_below Pt_35_p1136.out bw_t_37_p1137))
              | (have hst_38_p1138 := HBw_t_37_p1137.out.size
                 have h1t_38_p1138 : t_35.length + 1 ≤ maxLen := by unfold maxLen; omega
                 have h2t_38_p1138 : (t_35.length + 1) * 8 ≤ 140737488355328 := by omega
                 have h3t_38_p1138 := Ot_37_p1137.out.cells rfl
                 refine Go.Proofs.YtihibckijdfidaaGreat.GoH.step_append_own (w := w_t_37_p1137) rfl (.tmp 37) (.tmp 39) 31 rfl w.heap.size 3 i0_3 (.int .i64 0) 1 8 Tryz.underlying31 hi_3 hz0_3 hz1_3 hz2_3 rfl (by decide) At_35_p1136 ct_35_p1136 t_35.length _ rfl Pt_35_p1136_p1137.out ⟨wt_35_p1136.heap.size, 0, none⟩ 1 [.int .i64 n_1] rfl rfl h3t_38_p1138 (one_cells rfl) h1t_38_p1138 h2t_38_p1138 hst_38_p1138 ?_
                 intro vt_38_p1138 wt_38_p1138 ot_38_p1138 gt_38_p1138 yt_38_p1138
                 obtain ⟨qt_38_p1138, ct_38_p1138, rfl, pt_38_p1138⟩ := own_push hht_38.out (Go.Proofs.YtihibckijdfidaaGreat.HelpInt.iv_snoc _ _) rfl ot_38_p1138
                 have Pt_38_p1138 := Lib.hid pt_38_p1138
                 have Yt_38_p1138 := Lib.hid yt_38_p1138
                 have Gt_38_p1138 := Lib.hid gt_38_p1138
                 have HBwt_38_p1138 := Lib.hid (HBw_t_37_p1137.out.grown Gt_38_p1138.out hst_38_p1138 (fun q hq => (Pt_35_p1136_p1137.out.lt q hq).1))
                 have Dt_38_t_37_p1138 : Hid (Apart (some ⟨qt_38_p1138, 0, none⟩) _) := Lib.hid (apart_app (Apart.symm Dt_37_t_35_p1137.out) (fun a_ ha_ => (own_lt Ot_37_p1137.out a_ ha_).2) Yt_38_p1138.out)
                 have Ot_37_p1137_p1138 := Lib.hid (own_other Ot_37_p1137.out Gt_38_p1138.out (Apart.symm Dt_37_t_35_p1137.out)))
              | (have hst_42_p1139 := HBwt_38_p1138.out.size
                 have Ct_42_p1139 := Lib.hid ((Cells.below Mt_41.out HBwt_38_p1138.out))
                 have h1t_42_p1139 : t_38.length + t_41.length ≤ maxLen := by have h_ := hlt_42; unfold maxLen; omega
                 have h2t_42_p1139 : (t_38.length + t_41.length) * 8 ≤ 140737488355328 := by have h_ := hlt_42; omega
                 refine Go.Proofs.YtihibckijdfidaaGreat.GoH.step_spread_own (w := wt_38_p1138) rfl (.tmp 40) (.tmp 43) 31 rfl w.heap.size 3 i0_3 (.int .i64 0) 1 8 Tryz.underlying31 hi_3 hz0_3 hz1_3 hz2_3 rfl (by decide) (some ⟨qt_38_p1138, 0, none⟩) ct_38_p1138 t_38.length _ rfl Pt_38_p1138.out At_41 t_41.length ct_41 (Go.Proofs.YtihibckijdfidaaGreat.HelpInt.iv t_41) rfl Qt_41.out Ct_42_p1139.out (fun u hu => by unfold Go.Proofs.YtihibckijdfidaaGreat.HelpInt.iv at hu; obtain ⟨y_, _, rfl⟩ := List.mem_map.1 hu; rfl) h1t_42_p1139 h2t_42_p1139 hst_42_p1139 ?_
                 intro vt_42_p1139 wt_42_p1139 ot_42_p1139 gt_42_p1139 yt_42_p1139
                 obtain ⟨At_42_p1139, ct_42_p1139, rfl, pt_42_p1139⟩ := own_pushS (f := Go.Proofs.YtihibckijdfidaaGreat.HelpInt.iv) hht_42.out (by simp [Go.Proofs.YtihibckijdfidaaGreat.HelpInt.iv]) rfl ot_42_p1139
                 have Pt_42_p1139 := Lib.hid pt_42_p1139
                 have Yt_42_p1139 := Lib.hid yt_42_p1139
                 have Gt_42_p1139 := Lib.hid gt_42_p1139
                 have HBwt_42_p1139 := Lib.hid (HBwt_38_p1138.out.grown Gt_42_p1139.out hst_42_p1139 (fun q hq => (Pt_38_p1138.out.lt q hq).1)))
              | (have hst_35_p1141 := HBw_t_37_p1140.out.size
                 have Ct_35_p1141 := Lib.hid ((Cells.below Mt_34.out HBw_t_37_p1140.out))
                 have h1t_35_p1141 : 0 + t_34.length ≤ maxLen := by have h_ := hlt_35; simp only [List.length_nil] at h_; unfold maxLen; omega
                 have h2t_35_p1141 : (0 + t_34.length) * 8 ≤ 140737488355328 := by have h_ := hlt_35; simp only [List.length_nil] at h_; omega
                 refine Go.Proofs.YtihibckijdfidaaGreat.GoH.step_spread_own (w := w_t_37_p1140) rfl (.tmp 33) (.tmp 36) 31 rfl w.heap.size 3 i0_3 (.int .i64 0) 1 8 Tryz.underlying31 hi_3 hz0_3 hz1_3 hz2_3 rfl (by decide) (some ⟨wr0.heap.size, 0, none⟩) 0 0 _ rfl Ot_31_p1135_p1140.out A0 t_34.length c0 (Go.Proofs.YtihibckijdfidaaGreat.HelpInt.iv t_34) rfl Qt_34.out Ct_35_p1141.out (fun u hu => by unfold Go.Proofs.YtihibckijdfidaaGreat.HelpInt.iv at hu; obtain ⟨y_, _, rfl⟩ := List.mem_map.1 hu; rfl) h1t_35_p1141 h2t_35_p1141 hst_35_p1141 ?_
                 intro vt_35_p1141 wt_35_p1141 ot_35_p1141 gt_35_p1141 yt_35_p1141
                 obtain ⟨At_35_p1141, ct_35_p1141, rfl, pt_35_p1141⟩ := own_pushS (f := Go.Proofs.YtihibckijdfidaaGreat.HelpInt.iv) hht_35.out (by simp [Go.Proofs.YtihibckijdfidaaGreat.HelpInt.iv]) rfl ot_35_p1141
                 have Pt_35_p1141 := Lib.hid pt_35_p1141
                 have Yt_35_p1141 := Lib.hid yt_35_p1141
                 have Gt_35_p1141 := Lib.hid gt_35_p1141
                 have HBwt_35_p1141 := Lib.hid (HBw_t_37_p1140.out.grown Gt_35_p1141.out hst_35_p1141 (fun q hq => (Ot_31_p1135_p1140.out.lt q hq).1))
                 have Dt_35_t_37_p1141 : Hid (Apart At_35_p1141 _) := Lib.hid (apart_app (Apart.symm Dt_37_t_31_p1140.out) (fun a_ ha_ => (own_lt Ot_37_p1140.out a_ ha_).2) Yt_35_p1141.out)
                 have Ot_37_p1140_p1141 := Lib.hid (own_other Ot_37_p1140.out Gt_35_p1141.out (Apart.symm Dt_37_t_31_p1140.out)))
              | (have hst_38_p1142 := HBwt_35_p1141.out.size
                 have h1t_38_p1142 : t_35.length + 1 ≤ maxLen := by unfold maxLen; omega
                 have h2t_38_p1142 : (t_35.length + 1) * 8 ≤ 140737488355328 := by omega
                 have h3t_38_p1142 := Ot_37_p1140_p1141.out.cells rfl
                 refine Go.Proofs.YtihibckijdfidaaGreat.GoH.step_append_own (w := wt_35_p1141) rfl (.tmp 37) (.tmp 39) 31 rfl w.heap.size 3 i0_3 (.int .i64 0) 1 8 Tryz.underlying31 hi_3 hz0_3 hz1_3 hz2_3 rfl (by decide) At_35_p1141 ct_35_p1141 t_35.length _ rfl Pt_35_p1141.out ⟨w_t_31_p1135.heap.size, 0, none⟩ 1 [.int .i64 n_1] rfl rfl h3t_38_p1142 (one_cells rfl) h1t_38_p1142 h2t_38_p1142 hst_38_p1142 ?_
                 intro vt_38_p1142 wt_38_p1142 ot_38_p1142 gt_38_p1142 yt_38_p1142
                 obtain ⟨qt_38_p1142, ct_38_p1142, rfl, pt_38_p1142⟩ := own_push hht_38.out (Go.Proofs.YtihibckijdfidaaGreat.HelpInt.iv_snoc _ _) rfl ot_38_p1142
                 have Pt_38_p1142 := Lib.hid pt_38_p1142
                 have Yt_38_p1142 := Lib.hid yt_38_p1142
                 have Gt_38_p1142 := Lib.hid gt_38_p1142
                 have HBwt_38_p1142 := Lib.hid (HBwt_35_p1141.out.grown Gt_38_p1142.out hst_38_p1142 (fun q hq => (Pt_35_p1141.out.lt q hq).1))
                 have Dt_38_t_37_p1142 : Hid (Apart (some ⟨qt_38_p1142, 0, none⟩) _) := Lib.hid (apart_app Dt_35_t_37_p1141.out (fun a_ ha_ => (own_lt Ot_37_p1140_p1141.out a_ ha_).2) Yt_38_p1142.out)
                 have Ot_37_p1140_p1141_p1142 := Lib.hid (own_other Ot_37_p1140_p1141.out Gt_38_p1142.out Dt_35_t_37_p1141.out))
              | (have hst_42_p1143 := HBwt_38_p1142.out.size
                 have Ct_42_p1143 := Lib.hid ((Cells.below Mt_41.out HBwt_38_p1142.out))
                 have h1t_42_p1143 : t_38.length + t_41.length ≤ maxLen := by have h_ := hlt_42; unfold maxLen; omega
                 have h2t_42_p1143 : (t_38.length + t_41.length) * 8 ≤ 140737488355328 := by have h_ := hlt_42; omega
                 refine Go.Proofs.YtihibckijdfidaaGreat.GoH.step_spread_own (w := wt_38_p1142) rfl (.tmp 40) (.tmp 43) 31 rfl w.heap.size 3 i0_3 (.int .i64 0) 1 8 Tryz.underlying31 hi_3 hz0_3 hz1_3 hz2_3 rfl (by decide) (some ⟨qt_38_p1142, 0, none⟩) ct_38_p1142 t_38.length _ rfl Pt_38_p1142.out At_41 t_41.length ct_41 (Go.Proofs.YtihibckijdfidaaGreat.HelpInt.iv t_41) rfl Qt_41.out Ct_42_p1143.out (fun u hu => by unfold Go.Proofs.YtihibckijdfidaaGreat.HelpInt.iv at hu; obtain ⟨y_, _, rfl⟩ := List.mem_map.1 hu; rfl) h1t_42_p1143 h2t_42_p1143 hst_42_p1143 ?_
                 intro vt_42_p1143 wt_42_p1143 ot_42_p1143 gt_42_p1143 yt_42_p1143
                 obtain ⟨At_42_p1143, ct_42_p1143, rfl, pt_42_p1143⟩ := own_pushS (f := Go.Proofs.YtihibckijdfidaaGreat.HelpInt.iv) hht_42.out (by simp [Go.Proofs.YtihibckijdfidaaGreat.HelpInt.iv]) rfl ot_42_p1143
                 have Pt_42_p1143 := Lib.hid pt_42_p1143
                 have Yt_42_p1143 := Lib.hid yt_42_p1143
                 have Gt_42_p1143 := Lib.hid gt_42_p1143
                 have HBwt_42_p1143 := Lib.hid (HBwt_38_p1142.out.grown Gt_42_p1143.out hst_42_p1143 (fun q hq => (Pt_38_p1142.out.lt q hq).1)))
              | (have hst_35_p1146 := HBw_t_31_p1145.out.size
                 have Ct_35_p1146 := Lib.hid ((Cells.below Mt_34.out HBw_t_31_p1145.out))
                 have h1t_35_p1146 : 0 + t_34.length ≤ maxLen := by have h_ := hlt_35; simp only [List.length_nil] at h_; unfold maxLen; omega
                 have h2t_35_p1146 : (0 + t_34.length) * 8 ≤ 140737488355328 := by have h_ := hlt_35; simp only [List.length_nil] at h_; omega
                 refine Go.Proofs.YtihibckijdfidaaGreat.GoH.step_spread_own (w := w_t_31_p1145) rfl (.tmp 33) (.tmp 36) 31 rfl w.heap.size 3 i0_3 (.int .i64 0) 1 8 Tryz.underlying31 hi_3 hz0_3 hz1_3 hz2_3 rfl (by decide) (some ⟨w_t_37_p1144.heap.size, 0, none⟩) 0 0 _ rfl Ot_31_p1145.out A0 t_34.length c0 (Go.Proofs.YtihibckijdfidaaGreat.HelpInt.iv t_34) rfl Qt_34.out Ct_35_p1146.out (fun u hu => by unfold Go.Proofs.YtihibckijdfidaaGreat.HelpInt.iv at hu; obtain ⟨y_, _, rfl⟩ := List.mem_map.1 hu; rfl) h1t_35_p1146 h2t_35_p1146 hst_35_p1146 ?_
                 intro vt_35_p1146 wt_35_p1146 ot_35_p1146 gt_35_p1146 yt_35_p1146
                 obtain ⟨At_35_p1146, ct_35_p1146, rfl, pt_35_p1146⟩ := own_pushS (f := Go.Proofs.YtihibckijdfidaaGreat.HelpInt.iv) hht_35.out (by simp [Go.Proofs.YtihibckijdfidaaGreat.HelpInt.iv]) rfl ot_35_p1146
                 have Pt_35_p1146 := Lib.hid pt_35_p1146
                 have Yt_35_p1146 := Lib.hid yt_35_p1146
                 have Gt_35_p1146 := Lib.hid gt_35_p1146
                 have HBwt_35_p1146 := Lib.hid (HBw_t_31_p1145.out.grown Gt_35_p1146.out hst_35_p1146 (fun q hq => (Ot_31_p1145.out.lt q hq).1))
                 have Dt_35_t_37_p1146 : Hid (Apart At_35_p1146 _) := Lib.hid (apart_app Dt_31_t_37_p1145.out (fun a_ ha_ => (own_lt Ot_37_p1144_p1145.out a_ ha_).2) Yt_35_p1146.out)
                 have Ot_37_p1144_p1145_p1146 := Lib.hid (own_other Ot_37_p1144_p1145.out Gt_35_p1146.out Dt_31_t_37_p1145.out))
              | (have hst_38_p1147 := HBwt_35_p1146.out.size
                 have h1t_38_p1147 : t_35.length + 1 ≤ maxLen := by unfold maxLen; omega
                 have h2t_38_p1147 : (t_35.length + 1) * 8 ≤ 140737488355328 := by omega
                 have h3t_38_p1147 := Ot_37_p1144_p1145_p1146.out.cells rfl
                 refine Go.Proofs.YtihibckijdfidaaGreat.GoH.step_append_own (w := wt_35_p1146) rfl (.tmp 37) (.tmp 39) 31 rfl w.heap.size 3 i0_3 (.int .i64 0) 1 8 Tryz.underlying31 hi_3 hz0_3 hz1_3 hz2_3 rfl (by decide) At_35_p1146 ct_35_p1146 t_35.length _ rfl Pt_35_p1146.out ⟨wr0.heap.size, 0, none⟩ 1 [.int .i64 n_1] rfl rfl h3t_38_p1147 (one_cells rfl) h1t_38_p1147 h2t_38_p1147 hst_38_p1147 ?_
                 intro vt_38_p1147 wt_38_p1147 ot_38_p1147 gt_38_p1147 yt_38_p1147
                 obtain ⟨qt_38_p1147, ct_38_p1147, rfl, pt_38_p1147⟩ := own_push hht_38.out (Go.Proofs.YtihibckijdfidaaGreat.HelpInt.iv_snoc _ _) rfl ot_38_p1147
                 have Pt_38_p1147 := Lib.hid pt_38_p1147
                 have Yt_38_p1147 := Lib.hid yt_38_p1147
                 have Gt_38_p1147 := Lib.hid gt_38_p1147
                 have HBwt_38_p1147 := Lib.hid (HBwt_35_p1146.out.grown Gt_38_p1147.out hst_38_p1147 (fun q hq => (Pt_35_p1146.out.lt q hq).1))
                 have Dt_38_t_37_p1147 : Hid (Apart (some ⟨qt_38_p1147, 0, none⟩) _) := Lib.hid (apart_app Dt_35_t_37_p1146.out (fun a_ ha_ => (own_lt Ot_37_p1144_p1145_p1146.out a_ ha_).2) Yt_38_p1147.out)
                 have Ot_37_p1144_p1145_p1146_p1147 := Lib.hid (own_other Ot_37_p1144_p1145_p1146.out Gt_38_p1147.out Dt_35_t_37_p1146.out))
              | (have hst_42_p1148 := HBwt_38_p1147.out.size
                 have Ct_42_p1148 := Lib.hid ((Cells.below Mt_41.out HBwt_38_p1147.out))
                 have h1t_42_p1148 : t_38.length + t_41.length ≤ maxLen := by have h_ := hlt_42; unfold maxLen; omega
                 have h2t_42_p1148 : (t_38.length + t_41.length) * 8 ≤ 140737488355328 := by have h_ := hlt_42; omega
                 refine Go.Proofs.YtihibckijdfidaaGreat.GoH.step_spread_own (w := wt_38_p1147) rfl (.tmp 40) (.tmp 43) 31 rfl w.heap.size 3 i0_3 (.int .i64 0) 1 8 Tryz.underlying31 hi_3 hz0_3 hz1_3 hz2_3 rfl (by decide) (some ⟨qt_38_p1147, 0, none⟩) ct_38_p1147 t_38.length _ rfl Pt_38_p1147.out At_41 t_41.length ct_41 (Go.Proofs.YtihibckijdfidaaGreat.HelpInt.iv t_41) rfl Qt_41.out Ct_42_p1148.out (fun u hu => by unfold Go.Proofs.YtihibckijdfidaaGreat.HelpInt.iv at hu; obtain ⟨y_, _, rfl⟩ := List.mem_map.1 hu; rfl) h1t_42_p1148 h2t_42_p1148 hst_42_p1148 ?_
                 intro vt_42_p1148 wt_42_p1148 ot_42_p1148 gt_42_p1148 yt_42_p1148
                 obtain ⟨At_42_p1148, ct_42_p1148, rfl, pt_42_p1148⟩ := own_pushS (f := Go.Proofs.YtihibckijdfidaaGreat.HelpInt.iv) hht_42.out (by simp [Go.Proofs.YtihibckijdfidaaGreat.HelpInt.iv]) rfl ot_42_p1148
                 have Pt_42_p1148 := Lib.hid pt_42_p1148
                 have Yt_42_p1148 := Lib.hid yt_42_p1148
                 have Gt_42_p1148 := Lib.hid gt_42_p1148
                 have HBwt_42_p1148 := Lib.hid (HBwt_38_p1147.out.grown Gt_42_p1148.out hst_42_p1148 (fun q hq => (Pt_38_p1147.out.lt q hq).1))))
        · skip
          obtain rfl := ret_hid H
          go_wp2_with fail
          go_ret
          exact ⟨At_42_p1139, ct_42_p1139, rfl, (Lib.hid (.inr Pt_42_p1139.out)), HBwt_42_p1139.out⟩
        · skip
          obtain rfl := ret_hid H
          go_wp2_with fail
          go_ret
          exact ⟨At_42_p1143, ct_42_p1143, rfl, (Lib.hid (.inr Pt_42_p1143.out)), HBwt_42_p1143.out⟩
        · skip
          obtain rfl := ret_hid H
          go_wp2_with fail
          go_ret
          exact ⟨At_42_p1148, ct_42_p1148, rfl, (Lib.hid (.inr Pt_42_p1148.out)), HBwt_42_p1148.out⟩
      | true =>
        replace H := ite_t H
        replace H := idx_hid H
        obtain ⟨nt_9, yt_9, et_9, lt_9, gt_9, H⟩ := H
        subst et_9
        have nc_1149 : nt_9 < l.length := by have := of_decide_eq_true ht_5; omega
        obtain ⟨ab_t_9, ao_t_9, zt_9, At_9, z_t_9, ct_9_0⟩ := Go.Proofs.YtihibckijdfidaaGreat.HelpInt.Ints.at_ M0.out lt_9
        obtain rfl := Option.some.inj (gt_9.out.symm.trans z_t_9)
        subst At_9
        have ltt_9 := cell_lt ct_9_0
        replace ct_9_0 := cell_below HBwr0.out ct_9_0
        clear z_t_9
        have b0t_9 : (0 : Int) ≤ (nt_9 : Int) := by omega
        have b1t_9 : (nt_9 : Int) < ((l.length : Nat) : Int) := by omega
        have b2t_9 : ((nt_9 : Int)).toNat = nt_9 := by omega
        replace H := let_hid H
        obtain ⟨t_12, ht_12, H⟩ := H
        replace H := app_hid H
        cases t_12 with
        | false =>
          replace H := ite_f H
          replace H := app_hid H
          unfold e0 at H
          replace H := let_hid H
          obtain ⟨_, rfl, H⟩ := H
          replace H := let_hid H
          obtain ⟨t_20, ht_20, H⟩ := H
          obtain rfl := ht_5.symm.trans ht_20
          replace H := join_hid H
          replace H := ite_t H
          replace H := idx_hid H
          obtain ⟨nt_24, yt_24, et_24, lt_24, gt_24, H⟩ := H
          obtain rfl : nt_9 = nt_24 := by omega
          clear et_24
          obtain rfl := Option.some.inj (gt_9.out.symm.trans gt_24.out)
          clear gt_24 lt_24
          replace H := let_hid H
          obtain ⟨t_27, ht_27, H⟩ := H
          replace H := app_hid H
          cases t_27 with
          | false =>
            replace H := ite_f H
            go_wp2_with fail
            have bd6 : Below wr0.heap.size wr0 wr0.drew := (Below.refl _ _).drew
            have HBwr0.drew := Lib.hid (Below.step HBwr0.out bd6)
            replace ct_9_0 := cell_below bd6 ct_9_0
            clear bd6
            replace H := guard_hid H
            obtain ⟨hl_t_34, H⟩ := H
            replace H := let_hid H
            obtain ⟨t_34, ht_34, H⟩ := H
            have dt_34 : ((Go.Proofs.YtihibckijdfidaaGreat.HelpInt.iv l)).take (Int.toNat (nt_9 : Int) * 1) = (Go.Proofs.YtihibckijdfidaaGreat.HelpInt.iv t_34) := by
              rw [← ht_34]
              simp [Go.Proofs.YtihibckijdfidaaGreat.HelpInt.iv, List.map_take]
            have nt_34 : Int.toNat (nt_9 : Int) = t_34.length := by rw [← ht_34, List.length_take]; omega
            obtain ⟨rt_34, Mt_34, Qt_34⟩ := slice_headB (P := Tryz.prog) (t := 31) (e := 3) (k := .i64) (by kernel_rfl) (by kernel_rfl) hi_3 hz1_3 M0.out Q0.out hl_t_34 nt_34 dt_34
            have Nt_34 : Hid (t_34.length ≤ 9223372036854775807) := Lib.hid (by have := N0.out; omega)
            replace Mt_34 := Lib.hid Mt_34
            replace Qt_34 := Lib.hid Qt_34
            clear dt_34 nt_34 hl_t_34
            have hht_34 := Lib.hid ht_34
            clear ht_34
            replace H := guard_hid H
            obtain ⟨hlt_35, H⟩ := H
            replace H := let_hid H
            obtain ⟨t_35, ht_35, H⟩ := H
            have hht_35 := Lib.hid ht_35
            clear ht_35
            replace H := guard_hid H
            obtain ⟨hlt_38, H⟩ := H
            replace H := let_hid H
            obtain ⟨t_38, ht_38, H⟩ := H
            have hht_38 := Lib.hid ht_38
            clear ht_38
            replace H := guard_hid H
            obtain ⟨hl_t_41, H⟩ := H
            replace H := let_hid H
            obtain ⟨t_41, ht_41, H⟩ := H
            have dt_41 : ((Go.Proofs.YtihibckijdfidaaGreat.HelpInt.iv l)).drop (Int.toNat (nt_9 : Int) * 1) = (Go.Proofs.YtihibckijdfidaaGreat.HelpInt.iv t_41) := by
              rw [← ht_41]
              simp [Go.Proofs.YtihibckijdfidaaGreat.HelpInt.iv, List.map_drop]
            have nt_41 : l.length - Int.toNat (nt_9 : Int) = t_41.length := by rw [← ht_41, List.length_drop]
            obtain ⟨At_41, ct_41, rt_41, Mt_41, Qt_41⟩ := slice_tail (P := Tryz.prog) (t := 31) (e := 3) (k := .i64) (by kernel_rfl) (by kernel_rfl) hi_3 hz1_3 M0.out Q0.out hl_t_41 nt_41 dt_41
            have Nt_41 : Hid (t_41.length ≤ 9223372036854775807) := Lib.hid (by have := N0.out; omega)
            replace Mt_41 := Lib.hid Mt_41
            replace Qt_41 := Lib.hid Qt_41
            clear dt_41 nt_41 hl_t_41
            have hht_41 := Lib.hid ht_41
            clear ht_41
            have Not_41 := Nt_41.out
            replace H := guard_hid H
            obtain ⟨hlt_42, H⟩ := H
            replace H := let_hid H
            obtain ⟨t_42, ht_42, H⟩ := H
            have hht_42 := Lib.hid ht_42
            clear ht_42
            obtain ⟨w_t_31_p1153, hw_t_31_p1153⟩ : ∃ x, wr0.drew.alloc (.cells #[] 3) = x := ⟨_, rfl⟩
            have bw_t_31_p1153 : Below wr0.drew.heap.size wr0.drew w_t_31_p1153 := by rw [← hw_t_31_p1153]; exact (Below.refl _ _).alloc (Nat.le_refl _) _
            have Ot_31_p1153 : Hid (w_t_31_p1153.ownsRow w.heap.size 3 1 (.slice (some ⟨wr0.heap.size, 0, none⟩) 0 0) 0 []) := Lib.hid (by rw [← hw_t_31_p1153]; exact own_empty HBwr0.drew.out.size)
            have HBw_t_31_p1153 := Lib.hid (Below.step HBwr0.drew.out bw_t_31_p1153)
            have ct_9_0__1152_p1153 := cell_below bw_t_31_p1153 ct_9_0
            obtain ⟨w_t_37_p1160, hw_t_37_p1160⟩ : ∃ x, w_t_31_p1153.alloc (.cells #[.int .i64 n_1] 3) = x := ⟨_, rfl⟩
            have bw_t_37_p1160 : Below w_t_31_p1153.heap.size w_t_31_p1153 w_t_37_p1160 := by rw [← hw_t_37_p1160]; exact (Below.refl _ _).alloc (Nat.le_refl _) _
            have Ot_37_p1160 : Hid (w_t_37_p1160.ownsRow w.heap.size 3 1 (.slice (some ⟨w_t_31_p1153.heap.size, 0, none⟩) 1 1) 1 [.int .i64 n_1]) := Lib.hid (by rw [← hw_t_37_p1160]; exact own_laid (n := 1) HBw_t_31_p1153.out.size (rfl : ([.int .i64 n_1] : List Value) = [.int .i64 n_1]) rfl (by unfold maxLen; omega))
            have Dt_37_t_31_p1160 := Lib.hid (apart_fresh Ot_31_p1153.out)
            have HBw_t_37_p1160 := Lib.hid (Below.step HBw_t_31_p1153.out bw_t_37_p1160)
            have ct_9_0__1159_p1160 := cell_below bw_t_37_p1160 ct_9_0__1152_p1153
            have Ot_31_p1153_p1160 := Lib.hid (own_below Ot_31_p1153.out bw_t_37_p1160)
            obtain ⟨w_t_37_p1165, hw_t_37_p1165⟩ : ∃ x, wr0.drew.alloc (.cells #[.int .i64 n_1] 3) = x := ⟨_, rfl⟩
            have bw_t_37_p1165 : Below wr0.drew.heap.size wr0.drew w_t_37_p1165 := by rw [← hw_t_37_p1165]; exact (Below.refl _ _).alloc (Nat.le_refl _) _
            have Ot_37_p1165 : Hid (w_t_37_p1165.ownsRow w.heap.size 3 1 (.slice (some ⟨wr0.heap.size, 0, none⟩) 1 1) 1 [.int .i64 n_1]) := Lib.hid (by rw [← hw_t_37_p1165]; exact own_laid (n := 1) HBwr0.drew.out.size (rfl : ([.int .i64 n_1] : List Value) = [.int .i64 n_1]) rfl (by unfold maxLen; omega))
            have HBw_t_37_p1165 := Lib.hid (Below.step HBwr0.drew.out bw_t_37_p1165)
            have ct_9_0__1164_p1165 := cell_below bw_t_37_p1165 ct_9_0
            obtain ⟨w_t_31_p1167, hw_t_31_p1167⟩ : ∃ x, w_t_37_p1165.alloc (.cells #[] 3) = x := ⟨_, rfl⟩
            have bw_t_31_p1167 : Below w_t_37_p1165.heap.size w_t_37_p1165 w_t_31_p1167 := by rw [← hw_t_31_p1167]; exact (Below.refl _ _).alloc (Nat.le_refl _) _
            have Ot_31_p1167 : Hid (w_t_31_p1167.ownsRow w.heap.size 3 1 (.slice (some ⟨w_t_37_p1165.heap.size, 0, none⟩) 0 0) 0 []) := Lib.hid (by rw [← hw_t_31_p1167]; exact own_empty HBw_t_37_p1165.out.size)
            have Dt_31_t_37_p1167 := Lib.hid (apart_fresh Ot_37_p1165.out)
            have HBw_t_31_p1167 := Lib.hid (Below.step HBw_t_37_p1165.out bw_t_31_p1167)
            have ct_9_0__1166_p1167 := cell_below bw_t_31_p1167 ct_9_0__1164_p1165
            have Ot_37_p1165_p1167 := Lib.hid (own_below Ot_37_p1165.out bw_t_31_p1167)
            go_region_held3 (fun w' => w'.cell? ⟨ab_t_9, ao_t_9 + nt_9, none⟩ = some (.int .i64 yt_9)) (first | exact ct_9_0 | exact ct_9_0__1152_p1153 | exact ct_9_0__1152_p1153_p1154 | exact ct_9_0__1155_p1156 | exact ct_9_0__1155_p1156_p1157 | exact ct_9_0__1155_p1156_p1157_p1158 | exact ct_9_0__1159_p1160 | exact ct_9_0__1159_p1160_p1161 | exact ct_9_0__1159_p1160_p1161_p1162 | exact ct_9_0__1159_p1160_p1161_p1162_p1163 | exact ct_9_0__1164_p1165 | exact ct_9_0__1166_p1167 | exact ct_9_0__1166_p1167_p1168 | exact ct_9_0__1166_p1167_p1168_p1169 | exact ct_9_0__1166_p1167_p1168_p1169_p1170)
                (first
                  | (have hst_35_p1154 := HBw_t_31_p1153.out.size
                     have Ct_35_p1154 := Lib.hid ((Cells.below Mt_34.out HBw_t_31_p1153.out))
                     have h1t_35_p1154 : 0 + t_34.length ≤ maxLen := by have h_ := hlt_35; simp only [List.length_nil] at h_; unfold maxLen; omega
                     have h2t_35_p1154 : (0 + t_34.length) * 8 ≤ 140737488355328 := by have h_ := hlt_35; simp only [List.length_nil] at h_; omega
                     refine Go.Proofs.YtihibckijdfidaaGreat.GoH.step_spread_own (w := w_t_31_p1153) rfl (.tmp 33) (.tmp 36) 31 rfl w.heap.size 3 i0_3 (.int .i64 0) 1 8 Tryz.underlying31 hi_3 hz0_3 hz1_3 hz2_3 rfl (by decide) (some ⟨wr0.heap.size, 0, none⟩) 0 0 _ rfl Ot_31_p1153.out (some ⟨ab_t_9, ao_t_9, none⟩) t_34.length c0 (Go.Proofs.YtihibckijdfidaaGreat.HelpInt.iv t_34) rfl Qt_34.out Ct_35_p1154.out (fun u hu => by unfold Go.Proofs.YtihibckijdfidaaGreat.HelpInt.iv at hu; obtain ⟨y_, _, rfl⟩ := List.mem_map.1 hu; rfl) h1t_35_p1154 h2t_35_p1154 hst_35_p1154 ?_
                     intro vt_35_p1154 wt_35_p1154 ot_35_p1154 gt_35_p1154 yt_35_p1154
                     obtain ⟨At_35_p1154, ct_35_p1154, rfl, pt_35_p1154⟩ := own_pushS (f := Go.Proofs.YtihibckijdfidaaGreat.HelpInt.iv) hht_35.out (by simp [Go.Proofs.YtihibckijdfidaaGreat.HelpInt.iv]) rfl ot_35_p1154
                     have Pt_35_p1154 := Lib.hid pt_35_p1154
                     have Yt_35_p1154 := Lib.hid yt_35_p1154
                     have Gt_35_p1154 := Lib.hid gt_35_p1154
                     have HBwt_35_p1154 := Lib.hid (HBw_t_31_p1153.out.grown Gt_35_p1154.out hst_35_p1154 (fun q hq => (Ot_31_p1153.out.lt q hq).1))
                     have ct_9_0__1152_p1153_p1154 := cell_other ct_9_0__1152_p1153 Gt_35_p1154.out (apart_old Ot_31_p1153.out ltt_9)
                     obtain ⟨w_t_37_p1156, hw_t_37_p1156⟩ : ∃ x, wt_35_p1154.alloc (.cells #[.int .i64 n_1] 3) = x := ⟨_, rfl⟩
                     have bw_t_37_p1156 : Below wt_35_p1154.heap.size wt_35_p1154 w_t_37_p1156 := by rw [← hw_t_37_p1156]; exact (Below.refl _ _).alloc (Nat.le_refl _) _
                     have Ot_37_p1156 : Hid (w_t_37_p1156.ownsRow w.heap.size 3 1 (.slice (some ⟨wt_35_p1154.heap.size, 0, none⟩) 1 1) 1 [.int .i64 n_1]) := Lib.hid (by rw [← hw_t_37_p1156]; exact own_laid (n := 1) HBwt_35_p1154.out.size (rfl : ([.int .i64 n_1] : List Value) = [.int .i64 n_1]) rfl (by unfold maxLen; omega))
                     have Dt_37_t_35_p1156 := Lib.hid (apart_fresh Pt_35_p1154.out)
                     have HBw_t_37_p1156 := Lib.hid (Below.step HBwt_35_p1154.out bw_t_37_p1156)
                     have ct_9_0__1155_p1156 := cell_below bw_t_37_p1156 ct_9_0__1152_p1153_p1154
                     have Pt_35_p1154_p1156 := Lib.hid (own_below Pt_35_p1154.out bw_t_37_p1156))
                  | (have hst_38_p1157 := HBw_t_37_p1156.out.size
                     have h1t_38_p1157 : t_35.length + 1 ≤ maxLen := by unfold maxLen; omega
                     have h2t_38_p1157 : (t_35.length + 1) * 8 ≤ 140737488355328 := by omega
                     have h3t_38_p1157 := Ot_37_p1156.out.cells rfl
                     refine Go.Proofs.YtihibckijdfidaaGreat.GoH.step_append_own (w := w_t_37_p1156) rfl (.tmp 37) (.tmp 39) 31 rfl w.heap.size 3 i0_3 (.int .i64 0) 1 8 Tryz.underlying31 hi_3 hz0_3 hz1_3 hz2_3 rfl (by decide) At_35_p1154 ct_35_p1154 t_35.length _ rfl Pt_35_p1154_p1156.out ⟨wt_35_p1154.heap.size, 0, none⟩ 1 [.int .i64 n_1] rfl rfl h3t_38_p1157 (one_cells rfl) h1t_38_p1157 h2t_38_p1157 hst_38_p1157 ?_
                     intro vt_38_p1157 wt_38_p1157 ot_38_p1157 gt_38_p1157 yt_38_p1157
                     obtain ⟨qt_38_p1157, ct_38_p1157, rfl, pt_38_p1157⟩ := own_push hht_38.out (Go.Proofs.YtihibckijdfidaaGreat.HelpInt.iv_snoc _ _) rfl ot_38_p1157
                     have Pt_38_p1157 := Lib.hid pt_38_p1157
                     have Yt_38_p1157 := Lib.hid yt_38_p1157
                     have Gt_38_p1157 := Lib.hid gt_38_p1157
                     have HBwt_38_p1157 := Lib.hid (HBw_t_37_p1156.out.grown Gt_38_p1157.out hst_38_p1157 (fun q hq => (Pt_35_p1154_p1156.out.lt q hq).1))
                     have Dt_38_t_37_p1157 : Hid (Apart (some ⟨qt_38_p1157, 0, none⟩) _) := Lib.hid (apart_app (Apart.symm Dt_37_t_35_p1156.out) (fun a_ ha_ => (own_lt Ot_37_p1156.out a_ ha_).2) Yt_38_p1157.out)
                     have ct_9_0__1155_p1156_p1157 := cell_other ct_9_0__1155_p1156 Gt_38_p1157.out (apart_old Pt_35_p1154_p1156.out ltt_9)
                     have Ot_37_p1156_p1157 := Lib.hid (own_other Ot_37_p1156.out Gt_38_p1157.out (Apart.symm Dt_37_t_35_p1156.out)))
                  | (have hst_42_p1158 := HBwt_38_p1157.out.size
                     have Ct_42_p1158 := Lib.hid ((Cells.below Mt_41.out HBwt_38_p1157.out))
                     have h1t_42_p1158 : t_38.length + t_41.length ≤ maxLen := by have h_ := hlt_42; unfold maxLen; omega
                     have h2t_42_p1158 : (t_38.length + t_41.length) * 8 ≤ 140737488355328 := by have h_ := hlt_42; omega
                     refine Go.Proofs.YtihibckijdfidaaGreat.GoH.step_spread_own (w := wt_38_p1157) rfl (.tmp 40) (.tmp 43) 31 rfl w.heap.size 3 i0_3 (.int .i64 0) 1 8 Tryz.underlying31 hi_3 hz0_3 hz1_3 hz2_3 rfl (by decide) (some ⟨qt_38_p1157, 0, none⟩) ct_38_p1157 t_38.length _ rfl Pt_38_p1157.out At_41 t_41.length ct_41 (Go.Proofs.YtihibckijdfidaaGreat.HelpInt.iv t_41) rfl Qt_41.out Ct_42_p1158.out (fun u hu => by unfold Go.Proofs.YtihibckijdfidaaGreat.HelpInt.iv at hu; obtain ⟨y_, _, rfl⟩ := List.mem_map.1 hu; rfl) h1t_42_p1158 h2t_42_p1158 hst_42_p1158 ?_
                     intro vt_42_p1158 wt_42_p1158 ot_42_p1158 gt_42_p1158 yt_42_p1158
                     obtain ⟨At_42_p1158, ct_42_p1158, rfl, pt_42_p1158⟩ := own_pushS (f := Go.Proofs.YtihibckijdfidaaGreat.HelpInt.iv) hht_42.out (by simp [Go.Proofs.YtihibckijdfidaaGreat.HelpInt.iv]) rfl ot_42_p1158
                     have Pt_42_p1158 := Lib.hid pt_42_p1158
                     have Yt_42_p1158 := Lib.hid yt_42_p1158
                     have Gt_42_p1158 := Lib.hid gt_42_p1158
                     have HBwt_42_p1158 := Lib.hid (HBwt_38_p1157.out.grown Gt_42_p1158.out hst_42_p1158 (fun q hq => (Pt_38_p1157.out.lt q hq).1))
                     have ct_9_0__1155_p1156_p1157_p1158 := cell_other ct_9_0__1155_p1156_p1157 Gt_42_p1158.out (apart_old Pt_38_p1157.out ltt_9))
                  | (have hst_35_p1161 := HBw_t_37_p1160.out.size
                     have Ct_35_p1161 := Lib.hid ((Cells.below Mt_34.out HBw_t_37_p1160.out))
                     have h1t_35_p1161 : 0 + t_34.length ≤ maxLen := by have h_ := hlt_35; simp only [List.length_nil] at h_; unfold maxLen; omega
                     have h2t_35_p1161 : (0 + t_34.length) * 8 ≤ 140737488355328 := by have h_ := hlt_35; simp only [List.length_nil] at h_; omega
                     refine Go.Proofs.YtihibckijdfidaaGreat.GoH.step_spread_own (w := w_t_37_p1160) rfl (.tmp 33) (.tmp 36) 31 rfl w.heap.size 3 i0_3 (.int .i64 0) 1 8 Tryz.underlying31 hi_3 hz0_3 hz1_3 hz2_3 rfl (by decide) (some ⟨wr0.heap.size, 0, none⟩) 0 0 _ rfl Ot_31_p1153_p1160.out (some ⟨ab_t_9, ao_t_9, none⟩) t_34.length c0 (Go.Proofs.YtihibckijdfidaaGreat.HelpInt.iv t_34) rfl Qt_34.out Ct_35_p1161.out (fun u hu => by unfold Go.Proofs.YtihibckijdfidaaGreat.HelpInt.iv at hu; obtain ⟨y_, _, rfl⟩ := List.mem_map.1 hu; rfl) h1t_35_p1161 h2t_35_p1161 hst_35_p1161 ?_
                     intro vt_35_p1161 wt_35_p1161 ot_35_p1161 gt_35_p1161 yt_35_p1161
                     obtain ⟨At_35_p1161, ct_35_p1161, rfl, pt_35_p1161⟩ := own_pushS (f := Go.Proofs.YtihibckijdfidaaGreat.HelpInt.iv) hht_35.out (by simp [Go.Proofs.YtihibckijdfidaaGreat.HelpInt.iv]) rfl ot_35_p1161
                     have Pt_35_p1161 := Lib.hid pt_35_p1161
                     have Yt_35_p1161 := Lib.hid yt_35_p1161
                     have Gt_35_p1161 := Lib.hid gt_35_p1161
                     have HBwt_35_p1161 := Lib.hid (HBw_t_37_p1160.out.grown Gt_35_p1161.out hst_35_p1161 (fun q hq => (Ot_31_p1153_p1160.out.lt q hq).1))
                     have Dt_35_t_37_p1161 : Hid (Apart At_35_p1161 _) := Lib.hid (apart_app (Apart.symm Dt_37_t_31_p1160.out) (fun a_ ha_ => (own_lt Ot_37_p1160.out a_ ha_).2) Yt_35_p1161.out)
                     have ct_9_0__1159_p1160_p1161 := cell_other ct_9_0__1159_p1160 Gt_35_p1161.out (apart_old Ot_31_p1153_p1160.out ltt_9)
                     have Ot_37_p1160_p1161 := Lib.hid (own_other Ot_37_p1160.out Gt_35_p1161.out (Apart.symm Dt_37_t_31_p1160.out)))
                  | (have hst_38_p1162 := HBwt_35_p1161.out.size
                     have h1t_38_p1162 : t_35.length + 1 ≤ maxLen := by unfold maxLen; omega
                     have h2t_38_p1162 : (t_35.length + 1) * 8 ≤ 140737488355328 := by omega
                     have h3t_38_p1162 := Ot_37_p1160_p1161.out.cells rfl
                     refine Go.Proofs.YtihibckijdfidaaGreat.GoH.step_append_own (w := wt_35_p1161) rfl (.tmp 37) (.tmp 39) 31 rfl w.heap.size 3 i0_3 (.int .i64 0) 1 8 Tryz.underlying31 hi_3 hz0_3 hz1_3 hz2_3 rfl (by decide) At_35_p1161 ct_35_p1161 t_35.length _ rfl Pt_35_p1161.out ⟨w_t_31_p1153.heap.size, 0, none⟩ 1 [.int .i64 n_1] rfl rfl h3t_38_p1162 (one_cells rfl) h1t_38_p1162 h2t_38_p1162 hst_38_p1162 ?_
                     intro vt_38_p1162 wt_38_p1162 ot_38_p1162 gt_38_p1162 yt_38_p1162
                     obtain ⟨qt_38_p1162, ct_38_p1162, rfl, pt_38_p1162⟩ := own_push hht_38.out (Go.Proofs.YtihibckijdfidaaGreat.HelpInt.iv_snoc _ _) rfl ot_38_p1162
                     have Pt_38_p1162 := Lib.hid pt_38_p1162
                     have Yt_38_p1162 := Lib.hid yt_38_p1162
                     have Gt_38_p1162 := Lib.hid gt_38_p1162
                     have HBwt_38_p1162 := Lib.hid (HBwt_35_p1161.out.grown Gt_38_p1162.out hst_38_p1162 (fun q hq => (Pt_35_p1161.out.lt q hq).1))
                     have Dt_38_t_37_p1162 : Hid (Apart (some ⟨qt_38_p1162, 0, none⟩) _) := Lib.hid (apart_app Dt_35_t_37_p1161.out (fun a_ ha_ => (own_lt Ot_37_p1160_p1161.out a_ ha_).2) Yt_38_p1162.out)
                     have ct_9_0__1159_p1160_p1161_p1162 := cell_other ct_9_0__1159_p1160_p1161 Gt_38_p1162.out (apart_old Pt_35_p1161.out ltt_9)
                     have Ot_37_p1160_p1161_p1162 := Lib.hid (own_other Ot_37_p1160_p1161.out Gt_38_p1162.out Dt_35_t_37_p1161.out))
                  | (have hst_42_p1163 := HBwt_38_p1162.out.size
                     have Ct_42_p1163 := Lib.hid ((Cells.below Mt_41.out HBwt_38_p1162.out))
                     have h1t_42_p1163 : t_38.length + t_41.length ≤ maxLen := by have h_ := hlt_42; unfold maxLen; omega
                     have h2t_42_p1163 : (t_38.length + t_41.length) * 8 ≤ 140737488355328 := by have h_ := hlt_42; omega
                     refine Go.Proofs.YtihibckijdfidaaGreat.GoH.step_spread_own (w := wt_38_p1162) rfl (.tmp 40) (.tmp 43) 31 rfl w.heap.size 3 i0_3 (.int .i64 0) 1 8 Tryz.underlying31 hi_3 hz0_3 hz1_3 hz2_3 rfl (by decide) (some ⟨qt_38_p1162, 0, none⟩) ct_38_p1162 t_38.length _ rfl Pt_38_p1162.out At_41 t_41.length ct_41 (Go.Proofs.YtihibckijdfidaaGreat.HelpInt.iv t_41) rfl Qt_41.out Ct_42_p1163.out (fun u hu => by unfold Go.Proofs.YtihibckijdfidaaGreat.HelpInt.iv at hu; obtain ⟨y_, _, rfl⟩ := List.mem_map.1 hu; rfl) h1t_42_p1163 h2t_42_p1163 hst_42_p1163 ?_
                     intro vt_42_p1163 wt_42_p1163 ot_42_p1163 gt_42_p1163 yt_42_p1163
                     obtain ⟨At_42_p1163, ct_42_p1163, rfl, pt_42_p1163⟩ := own_pushS (f := Go.Proofs.YtihibckijdfidaaGreat.HelpInt.iv) hht_42.out (by simp [Go.Proofs.YtihibckijdfidaaGreat.HelpInt.iv]) rfl ot_42_p1163
                     have Pt_42_p1163 := Lib.hid pt_42_p1163
                     have Yt_42_p1163 := Lib.hid yt_42_p1163
                     have Gt_42_p1163 := Lib.hid gt_42_p1163
                     have HBwt_42_p1163 := Lib.hid (HBwt_38_p1162.out.grown Gt_42_p1163.out hst_42_p1163 (fun q hq => (Pt_38_p1162.out.lt q hq).1))
                     have ct_9_0__1159_p1160_p1161_p1162_p1163 := cell_other ct_9_0__1159_p1160_p1161_p1162 Gt_42_p1163.out (apart_old Pt_38_p1162.out ltt_9))
                  | (have hst_35_p1168 := HBw_t_31_p1167.out.size
                     have Ct_35_p1168 := Lib.hid ((Cells.below Mt_34.out HBw_t_31_p1167.out))
                     have h1t_35_p1168 : 0 + t_34.length ≤ maxLen := by have h_ := hlt_35; simp only [List.length_nil] at h_; unfold maxLen; omega
                     have h2t_35_p1168 : (0 + t_34.length) * 8 ≤ 140737488355328 := by have h_ := hlt_35; simp only [List.length_nil] at h_; omega
                     refine Go.Proofs.YtihibckijdfidaaGreat.GoH.step_spread_own (w := w_t_31_p1167) rfl (.tmp 33) (.tmp 36) 31 rfl w.heap.size 3 i0_3 (.int .i64 0) 1 8 Tryz.underlying31 hi_3 hz0_3 hz1_3 hz2_3 rfl (by decide) (some ⟨w_t_37_p1165.heap.size, 0, none⟩) 0 0 _ rfl Ot_31_p1167.out (some ⟨ab_t_9, ao_t_9, none⟩) t_34.length c0 (Go.Proofs.YtihibckijdfidaaGreat.HelpInt.iv t_34) rfl Qt_34.out Ct_35_p1168.out (fun u hu => by unfold Go.Proofs.YtihibckijdfidaaGreat.HelpInt.iv at hu; obtain ⟨y_, _, rfl⟩ := List.mem_map.1 hu; rfl) h1t_35_p1168 h2t_35_p1168 hst_35_p1168 ?_
                     intro vt_35_p1168 wt_35_p1168 ot_35_p1168 gt_35_p1168 yt_35_p1168
                     obtain ⟨At_35_p1168, ct_35_p1168, rfl, pt_35_p1168⟩ := own_pushS (f := Go.Proofs.YtihibckijdfidaaGreat.HelpInt.iv) hht_35.out (by simp [Go.Proofs.YtihibckijdfidaaGreat.HelpInt.iv]) rfl ot_35_p1168
                     have Pt_35_p1168 := Lib.hid pt_35_p1168
                     have Yt_35_p1168 := Lib.hid yt_35_p1168
                     have Gt_35_p1168 := Lib.hid gt_35_p1168
                     have HBwt_35_p1168 := Lib.hid (HBw_t_31_p1167.out.grown Gt_35_p1168.out hst_35_p1168 (fun q hq => (Ot_31_p1167.out.lt q hq).1))
                     have Dt_35_t_37_p1168 : Hid (Apart At_35_p1168 _) := Lib.hid (apart_app Dt_31_t_37_p1167.out (fun a_ ha_ => (own_lt Ot_37_p1165_p1167.out a_ ha_).2) Yt_35_p1168.out)
                     have ct_9_0__1166_p1167_p1168 := cell_other ct_9_0__1166_p1167 Gt_35_p1168.out (apart_old Ot_31_p1167.out ltt_9)
                     have Ot_37_p1165_p1167_p1168 := Lib.hid (own_other Ot_37_p1165_p1167.out Gt_35_p1168.out Dt_31_t_37_p1167.out))
                  | (have hst_38_p1169 := HBwt_35_p1168.out.size
                     have h1t_38_p1169 : t_35.length + 1 ≤ maxLen := by unfold maxLen; omega
                     have h2t_38_p1169 : (t_35.length + 1) * 8 ≤ 140737488355328 := by omega
                     have h3t_38_p1169 := Ot_37_p1165_p1167_p1168.out.cells rfl
                     refine Go.Proofs.YtihibckijdfidaaGreat.GoH.step_append_own (w := wt_35_p1168) rfl (.tmp 37) (.tmp 39) 31 rfl w.heap.size 3 i0_3 (.int .i64 0) 1 8 Tryz.underlying31 hi_3 hz0_3 hz1_3 hz2_3 rfl (by decide) At_35_p1168 ct_35_p1168 t_35.length _ rfl Pt_35_p1168.out ⟨wr0.heap.size, 0, none⟩ 1 [.int .i64 n_1] rfl rfl h3t_38_p1169 (one_cells rfl) h1t_38_p1169 h2t_38_p1169 hst_38_p1169 ?_
                     intro vt_38_p1169 wt_38_p1169 ot_38_p1169 gt_38_p1169 yt_38_p1169
                     obtain ⟨qt_38_p1169, ct_38_p1169, rfl, pt_38_p1169⟩ := own_push hht_38.out (Go.Proofs.YtihibckijdfidaaGreat.HelpInt.iv_snoc _ _) rfl ot_38_p1169
                     have Pt_38_p1169 := Lib.hid pt_38_p1169
                     have Yt_38_p1169 := Lib.hid yt_38_p1169
                     have Gt_38_p1169 := Lib.hid gt_38_p1169
                     have HBwt_38_p1169 := Lib.hid (HBwt_35_p1168.out.grown Gt_38_p1169.out hst_38_p1169 (fun q hq => (Pt_35_p1168.out.lt q hq).1))
                     have Dt_38_t_37_p1169 : Hid (Apart (some ⟨qt_38_p1169, 0, none⟩) _) := Lib.hid (apart_app Dt_35_t_37_p1168.out (fun a_ ha_ => (own_lt Ot_37_p1165_p1167_p1168.out a_ ha_).2) Yt_38_p1169.out)
                     have ct_9_0__1166_p1167_p1168_p1169 := cell_other ct_9_0__1166_p1167_p1168 Gt_38_p1169.out (apart_old Pt_35_p1168.out ltt_9)
                     have Ot_37_p1165_p1167_p1168_p1169 := Lib.hid (own_other Ot_37_p1165_p1167_p1168.out Gt_38_p1169.out Dt_35_t_37_p1168.out))
                  | (have hst_42_p1170 := HBwt_38_p1169.out.size
                     have Ct_42_p1170 := Lib.hid ((Cells.below Mt_41.out HBwt_38_p1169.out))
                     have h1t_42_p1170 : t_38.length + t_41.length ≤ maxLen := by have h_ := hlt_42; unfold maxLen; omega
                     have h2t_42_p1170 : (t_38.length + t_41.length) * 8 ≤ 140737488355328 := by have h_ := hlt_42; omega
                     refine Go.Proofs.YtihibckijdfidaaGreat.GoH.step_spread_own (w := wt_38_p1169) rfl (.tmp 40) (.tmp 43) 31 rfl w.heap.size 3 i0_3 (.int .i64 0) 1 8 Tryz.underlying31 hi_3 hz0_3 hz1_3 hz2_3 rfl (by decide) (some ⟨qt_38_p1169, 0, none⟩) ct_38_p1169 t_38.length _ rfl Pt_38_p1169.out At_41 t_41.length ct_41 (Go.Proofs.YtihibckijdfidaaGreat.HelpInt.iv t_41) rfl Qt_41.out Ct_42_p1170.out (fun u hu => by unfold Go.Proofs.YtihibckijdfidaaGreat.HelpInt.iv at hu; obtain ⟨y_, _, rfl⟩ := List.mem_map.1 hu; rfl) h1t_42_p1170 h2t_42_p1170 hst_42_p1170 ?_
                     intro vt_42_p1170 wt_42_p1170 ot_42_p1170 gt_42_p1170 yt_42_p1170
                     obtain ⟨At_42_p1170, ct_42_p1170, rfl, pt_42_p1170⟩ := own_pushS (f := Go.Proofs.YtihibckijdfidaaGreat.HelpInt.iv) hht_42.out (by simp [Go.Proofs.YtihibckijdfidaaGreat.HelpInt.iv]) rfl ot_42_p1170
                     have Pt_42_p1170 := Lib.hid pt_42_p1170
                     have Yt_42_p1170 := Lib.hid yt_42_p1170
                     have Gt_42_p1170 := Lib.hid gt_42_p1170
                     have HBwt_42_p1170 := Lib.hid (HBwt_38_p1169.out.grown Gt_42_p1170.out hst_42_p1170 (fun q hq => (Pt_38_p1169.out.lt q hq).1))
                     have ct_9_0__1166_p1167_p1168_p1169_p1170 := cell_other ct_9_0__1166_p1167_p1168_p1169 Gt_42_p1170.out (apart_old Pt_38_p1169.out ltt_9)))
            · skip
              obtain rfl := ret_hid H
              go_wp2_with fail
              go_ret
              exact ⟨At_42_p1158, ct_42_p1158, rfl, (Lib.hid (.inr Pt_42_p1158.out)), HBwt_42_p1158.out⟩
            · skip
              obtain rfl := ret_hid H
              go_wp2_with fail
              go_ret
              exact ⟨At_42_p1163, ct_42_p1163, rfl, (Lib.hid (.inr Pt_42_p1163.out)), HBwt_42_p1163.out⟩
            · skip
              obtain rfl := ret_hid H
              go_wp2_with fail
              go_ret
              exact ⟨At_42_p1170, ct_42_p1170, rfl, (Lib.hid (.inr Pt_42_p1170.out)), HBwt_42_p1170.out⟩
          | true =>
            replace H := ite_t H
            obtain rfl := ret_hid H
            go_wp2_with fail
            go_ret
            exact ⟨_, _, rfl, (Lib.hid (.inl (by first | exact ⟨rfl, rfl, rfl⟩ | exact ⟨rfl, rfl⟩))), HBwr0.out⟩
        | true =>
          replace H := ite_t H
          replace H := let_hid H
          obtain ⟨t_15, ht_15, H⟩ := H
          replace H := app_hid H
          go_wp2_with fail
          go_roundg m0
          case measure => omega
          case rel => exact ⟨_, rfl, H, HBwr0⟩

theorem C (fuel : Nat) (l : (List Int)) (n_1 : Int) (A0 : Option Addr) (c0 : Nat)  (b0 : Nat) (w : World) (M0 : Hid (w.ownsRow b0 3 1 (.slice A0 l.length c0) l.length (Go.Proofs.YtihibckijdfidaaGreat.HelpInt.iv l))) (N0 : Hid (l.length ≤ 9223372036854775807)) (Q0 : Hid (Room A0 l.length c0))  (LB : Hid (b0 ≤ w.heap.size)) {r : (List Int)} (H : Hid (P fuel l n_1 = some r)) :
    Calls Tryz.prog 95 #[.slice A0 l.length c0, .int .i64 n_1] w (fun e w' => ∃ A_r c_r, e = .returned (.slice A_r r.length c_r) ∧ w'.ownsRow b0 3 1 (.slice A_r r.length c_r) r.length (Go.Proofs.YtihibckijdfidaaGreat.HelpInt.iv r) ∧ w.grownBy w' (Value.slice A0 l.length c0).ownBlock ∧ Go.Proofs.YtihibckijdfidaaGreat.GoK.From w A0 A_r) := by
  refine (C1 fuel l n_1 A0 c0 w (Lib.hid (own_cells M0.out)) N0 Q0 H).mono ?_; rintro e_ w_ ⟨A_, c_, rfl, h_, hb_⟩
  rcases h_.out with ⟨h1_, h2_, h3_⟩ | h_
  · refine ⟨_, _, rfl, ?_, grown_below (Aid.grown_refl _ _) hb_, ?_⟩
    · rw [h1_, h2_, h3_]; exact own_below M0.out hb_
    · rw [h1_]; exact Go.Proofs.YtihibckijdfidaaGreat.GoK.from_self
  · exact ⟨_, _, rfl, Go.Proofs.YtihibckijdfidaaGreat.GoK.own_baseM LB.out h_, grown_below (Aid.grown_refl _ _) hb_, Go.Proofs.YtihibckijdfidaaGreat.GoK.from_own h_⟩
end Go.Proofs.YtihibckijdfidaaGreat.GsL1Put

namespace Go.Proofs.YtihibckijdfidaaGreat.GsL12Days
open Go.RowKit
open Go.Proofs.YtihibckijdfidaaGreat.Rowed Go.Proofs.YtihibckijdfidaaGreat.Turn Go.Proofs.YtihibckijdfidaaGreat.Aid Go.Proofs.YtihibckijdfidaaGreat.GoP Go.Proofs.YtihibckijdfidaaGreat.GoM

def l0 (rates : (List PRate.Rate)) (fuel : Nat) (k0 : Nat) (s : (List Int)) (nx0 bk0 : (List Int) → Option ((List Int))) : Option ((List Int)) :=
 letK s fun out_7l0 =>
 Option.bind (idx rates (k0 : Int)) fun (yt_16 : PRate.Rate) =>
 unRate yt_16 fun (t_16_zone : Int) (t_16_grams : Int) (t_16_from_ : Int) (t_16_until_ : Int) (t_16_cents : Int) =>
 Option.bind (GsL1Put.P fuel out_7l0 t_16_from_) fun (t_19 : (List Int)) =>
 Option.bind (idx rates (k0 : Int)) fun (yt_23 : PRate.Rate) =>
 unRate yt_23 fun (t_23_zone : Int) (t_23_grams : Int) (t_23_from_ : Int) (t_23_until_ : Int) (t_23_cents : Int) =>
 letK (decide (t_23_until_ < 4000)) fun (t_26 : Bool) =>
 iteK t_26
 (Option.bind (idx rates (k0 : Int)) fun (yt_30 : PRate.Rate) =>
 unRate yt_30 fun (t_30_zone : Int) (t_30_grams : Int) (t_30_from_ : Int) (t_30_until_ : Int) (t_30_cents : Int) =>
 letK (IntKind.i64.wrap (t_30_until_ + 1)) fun (t_33 : Int) =>
 Option.bind (GsL1Put.P fuel t_19 t_33) fun (t_34 : (List Int)) =>
 appK nx0 (t_34))
 (appK nx0 (t_19))

def e0  (s : (List Int)) : Option ((List Int)) :=
 letK s fun out_7l0 =>
 some out_7l0

def P (fuel : Nat) (rates : (List PRate.Rate)) (day : Int) (free : Bool) : Option ((List Int)) :=
 letK (!free) fun (t_2 : Bool) =>
 iteK t_2
 (letK ([day]) fun (t_4 : (List Int)) =>
 some t_4)
 (letK ([0]) fun (t_6 : (List Int)) =>
 cntK (l0 rates fuel) (rates.length) 0 (t_6) (e0 ))

set_option maxRecDepth 100000 in
set_option maxHeartbeats 2000000 in
theorem C (fuel : Nat) (rates : (List PRate.Rate)) (day : Int) (free : Bool) (A0 : Option Addr) (c0 : Nat)  (w : World) (M0 : Hid (Cells w 5 A0 rates.length (PRate.flat rates))) (N0 : Hid (rates.length ≤ 9223372036854775807))  {r : (List Int)} (H : Hid (P fuel rates day free = some r)) :
  Calls Tryz.prog 79 #[.slice A0 rates.length c0, .int .i64 day, .bool free] w (fun e w' => ∃ A_r c_r, e = .returned (.slice A_r r.length c_r) ∧ w'.ownsRow w.heap.size 3 1 (.slice A_r r.length c_r) r.length (HelpInt.iv r) ∧ Below w.heap.size w w') := by
 have HB := Lib.hid (Below.refl w.heap.size w); unfold P at H; have N0o := N0.out
 go_enter Tryz.func79, Tryz.ntmps79
 cases free with
 | false =>
  replace H := let_hid H; obtain ⟨t_2, ht_2, H⟩ := H; obtain rfl : t_2 = true := ht_2.symm; replace H := ite_t H; replace H := let_hid H; obtain ⟨t_4, ht_4, H⟩ := H; obtain ⟨f11, e11⟩ : ∃ x, w.alloc (.cells #[.int .i64 day] 3) = x := ⟨_, rfl⟩; have x10 : Below w.heap.size w f11 := (by rw [← e11]; exact (Below.refl _ _).alloc (Nat.le_refl _) _); have t10 := HB.out.size; have nt_4 : t_4.length = 1 := (by rw [← ht_4]; rfl)
  have Ot_4 : Hid (f11.ownsRow w.heap.size 3 1 (.slice (some ⟨w.heap.size, 0, none⟩) 1 1) 1 (HelpInt.iv t_4)) := by
   rw [← e11, ← ht_4]; have e_ : ([.int .i64 day] : List Value) = (HelpInt.iv ([day] : List Int)) := rfl; exact Lib.hid (own_laid (n := 1) t10 e_ rfl (by unfold maxLen; omega))
  clear t10; have x12 := Lib.hid ht_4; clear ht_4; replace nt_4 := Lib.hid nt_4; have c12 := Lib.hid (Below.step HB.out x10); clear x10; obtain rfl := ret_hid H; go_wp2_with fail; go_ret; have hr_0 := nt_4.out; replace Ot_4 := Lib.hid (own_len hr_0 Ot_4.out); exact ⟨(some ⟨w.heap.size, 0, none⟩), 1, (by first | (rw [hr_0]; done) | (rw [hr_0]; rfl)), Ot_4.out, c12.out⟩
 | true =>
  replace H := let_hid H; obtain ⟨t_2, ht_2, H⟩ := H; obtain rfl : t_2 = false := ht_2.symm; replace H := ite_f H; replace H := let_hid H; obtain ⟨t_6, ht_6, H⟩ := H; obtain ⟨a11, v10⟩ : ∃ x, w.alloc (.cells #[.int .i64 0] 3) = x := ⟨_, rfl⟩; have s10 : Below w.heap.size w a11 := (by rw [← v10]; exact (Below.refl _ _).alloc (Nat.le_refl _) _); have z10 := HB.out.size; have nt_6 : t_6.length = 1 := (by rw [← ht_6]; rfl)
  have Ot_6 : Hid (a11.ownsRow w.heap.size 3 1 (.slice (some ⟨w.heap.size, 0, none⟩) 1 1) 1 (HelpInt.iv t_6)) := by
   rw [← v10, ← ht_6]; have e_ : ([.int .i64 0] : List Value) = (HelpInt.iv ([0] : List Int)) := rfl; exact Lib.hid (own_laid (n := 1) z10 e_ rfl (by unfold maxLen; omega))
  clear z10; have v12 := Lib.hid ht_6; clear ht_6; replace nt_6 := Lib.hid nt_6; have p11 := Lib.hid (Below.step HB.out s10); clear s10; go_wp2_with fail; have hc_ := nt_6.out; have hv_ : (Value.slice (some ⟨w.heap.size, 0, none⟩) 1 1 : Value) = Value.slice (some ⟨w.heap.size, 0, none⟩) t_6.length 1 := (by rw [hc_])
  try rw [hv_]
  replace Ot_6 := Lib.hid (own_len hc_ Ot_6.out); clear hc_ hv_; go_wp2_with fail; go_loopg [8, 7] (rates.length) (fun m_ v8_ v7_ wr => ∃ (k0 : Nat) (e10 : (List Int)) (m10 : Option Addr) (n10 : Nat), k0 + m_ = rates.length ∧ v8_ = .int .i64 (k0 : Int) ∧ v7_ = .slice m10 e10.length n10 ∧ Hid (cntK (l0 rates fuel) m_ k0 (e10) (e0 ) = some r) ∧ Hid (Below w.heap.size w wr) ∧ Hid (wr.ownsRow w.heap.size 3 1 (.slice m10 e10.length n10) e10.length (HelpInt.iv e10)))
  case atStart => exact ⟨0, _, _, _, by omega, rfl, rfl, H, p11, Ot_6⟩
  case round =>
   obtain ⟨k0, e10, m10, n10, hkm0, rfl, rfl, H, d10, b10⟩ := hrel; rename World => wr0
   cases gk with
   | zero =>
    obtain rfl : k0 = rates.length := (by omega); have hc0 : decide (((rates.length : Nat) : Int) < ((rates.length : Nat) : Int)) = false := (by simp); replace H := cnt_zero H; unfold e0 at H; replace H := let_hid H; obtain ⟨_, rfl, H⟩ := H; obtain rfl := ret_hid H; go_wp2_with fail; go_ret; exact ⟨m10, n10, rfl, b10.out, d10.out⟩
   | succ m0 =>
    have hlt0 : k0 < rates.length := (by omega); have hc0 : decide ((k0 : Int) < ((rates.length : Nat) : Int)) = true := (by simp; omega); replace H := cnt_succ H; unfold l0 at H; replace H := let_hid H; obtain ⟨_, rfl, H⟩ := H; replace H := idx_hid H; obtain ⟨k11, j11, r11, i11, q10, H⟩ := H; obtain rfl : k0 = k11 := (by omega); clear r11; obtain ⟨g12, f12, q11, i12, d12⟩ := j11; replace H := unRate_hid H; obtain ⟨j12, o12, h12, n11, b11, f10, j10, k10, i10, l10⟩ := ORate.at_ M0.out i11; obtain rfl := Option.some.inj (q10.out.symm.trans b11); subst n11; have c10 := cell_lt f10; replace f10 := cell_below d10.out f10; replace j10 := cell_below d10.out j10; replace k10 := cell_below d10.out k10; replace i10 := cell_below d10.out i10; replace l10 := cell_below d10.out l10; clear b11; have p12 : (0 : Int) ≤ (k0 : Int) := (by omega); have y12 : (k0 : Int) < ((rates.length : Nat) : Int) := (by omega); have n12 : ((k0 : Int)).toNat = k0 := (by omega); replace H := bind_hid H; obtain ⟨t_19, m11, H⟩ := H; go_wp2_with fail; go_at_call 95; refine (GsL1Put.C fuel (e10) (q11) m10 n10 w.heap.size _   b10 (Lib.hid (own_max b10.out)) (Lib.hid (own_room b10.out)) (Lib.hid d10.out.size)  m11).mono ?_; rintro l12 k12 ⟨a12, b12, rfl, g11, d11, r10⟩; have a10 := Lib.hid g11; have h10 := Lib.hid d11; replace r10 := Lib.hid r10; clear g11 d11; have o10 := Lib.hid (d10.out.grown h10.out d10.out.size (fun q hq => (b10.out.lt q hq).1)); replace f10 := cell_other f10 h10.out (apart_old b10.out c10); replace j10 := cell_other j10 h10.out (apart_old b10.out c10); replace k10 := cell_other k10 h10.out (apart_old b10.out c10); replace i10 := cell_other i10 h10.out (apart_old b10.out c10); replace l10 := cell_other l10 h10.out (apart_old b10.out c10); clear b10 h10 r10; replace H := idx_hid H; obtain ⟨o11, r12, v11, w11, c11, H⟩ := H; obtain rfl : k0 = o11 := (by omega); clear v11; obtain rfl := Option.some.inj (q10.out.symm.trans c11.out); clear c11 w11; replace H := unRate_hid H; replace H := let_hid H; obtain ⟨t_26, q12, H⟩ := H
    cases t_26 with
    | false =>
     replace H := ite_f H; replace H := app_hid H; go_wp2_with fail
     go_roundg m0
     case measure => omega
     case rel => exact ⟨k0 + 1, _, _, _, by omega, by go_num, rfl, H, o10, a10⟩
    | true =>
     replace H := ite_t H; replace H := idx_hid H; obtain ⟨s11, w12, x11, y11, h11, H⟩ := H; obtain rfl : k0 = s11 := (by omega); clear x11; obtain rfl := Option.some.inj (q10.out.symm.trans h11.out); clear h11 y11; replace H := unRate_hid H; replace H := let_hid H; obtain ⟨t_33, m12, H⟩ := H; replace H := bind_hid H; obtain ⟨t_34, l11, H⟩ := H; go_wp2_with fail; go_at_call 95; refine (GsL1Put.C fuel (t_19) (t_33) a12 b12 w.heap.size _   a10 (Lib.hid (own_max a10.out)) (Lib.hid (own_room a10.out)) (Lib.hid o10.out.size)  l11).mono ?_; rintro t12 z12 ⟨s12, e12, rfl, w10, y10, p10⟩; have z11 := Lib.hid w10; have g10 := Lib.hid y10; replace p10 := Lib.hid p10; clear w10 y10; have t11 := Lib.hid (o10.out.grown g10.out o10.out.size (fun q hq => (a10.out.lt q hq).1)); replace f10 := cell_other f10 g10.out (apart_old a10.out c10); replace j10 := cell_other j10 g10.out (apart_old a10.out c10); replace k10 := cell_other k10 g10.out (apart_old a10.out c10); replace i10 := cell_other i10 g10.out (apart_old a10.out c10); replace l10 := cell_other l10 g10.out (apart_old a10.out c10); clear a10 g10 p10; replace H := app_hid H; go_wp2_with fail
     go_roundg m0
     case measure => omega
     case rel => exact ⟨k0 + 1, _, _, _, by omega, by go_num, rfl, H, t11, z11⟩
end Go.Proofs.YtihibckijdfidaaGreat.GsL12Days

namespace Go.Proofs.YtihibckijdfidaaGreat.GsL12Zones
open Go.RowKit
open Go.Proofs.YtihibckijdfidaaGreat.Rowed Go.Proofs.YtihibckijdfidaaGreat.Turn Go.Proofs.YtihibckijdfidaaGreat.Aid Go.Proofs.YtihibckijdfidaaGreat.GoP Go.Proofs.YtihibckijdfidaaGreat.GoM

def P (zone : Int) (free : Bool) : Option ((List Int)) :=
 letK (!free) fun (t_2 : Bool) =>
 iteK t_2
 (letK ([zone]) fun (t_4 : (List Int)) =>
 some t_4)
 (letK ([0, 1, 2, 3, 4, 5, 6, 7, 8, 9]) fun (t_6 : (List Int)) =>
 some t_6)

set_option maxRecDepth 100000 in
set_option maxHeartbeats 2000000 in
theorem C (zone : Int) (free : Bool)   (w : World)   {r : (List Int)} (H : Hid (P zone free = some r)) :
  Calls Tryz.prog 80 #[.int .i64 zone, .bool free] w (fun e w' => ∃ A_r c_r, e = .returned (.slice A_r r.length c_r) ∧ w'.ownsRow w.heap.size 3 1 (.slice A_r r.length c_r) r.length (HelpInt.iv r) ∧ Below w.heap.size w w') := by
 have HB := Lib.hid (Below.refl w.heap.size w); unfold P at H
 go_enter Tryz.func80, Tryz.ntmps80
 cases free with
 | false =>
  replace H := let_hid H; obtain ⟨t_2, ht_2, H⟩ := H; obtain rfl : t_2 = true := ht_2.symm; replace H := ite_t H; replace H := let_hid H; obtain ⟨t_4, ht_4, H⟩ := H; obtain ⟨a10, c10⟩ : ∃ x, w.alloc (.cells #[.int .i64 zone] 3) = x := ⟨_, rfl⟩; have e10 : Below w.heap.size w a10 := (by rw [← c10]; exact (Below.refl _ _).alloc (Nat.le_refl _) _); have h10 := HB.out.size; have nt_4 : t_4.length = 1 := (by rw [← ht_4]; rfl)
  have Ot_4 : Hid (a10.ownsRow w.heap.size 3 1 (.slice (some ⟨w.heap.size, 0, none⟩) 1 1) 1 (HelpInt.iv t_4)) := by
   rw [← c10, ← ht_4]; have e_ : ([.int .i64 zone] : List Value) = (HelpInt.iv ([zone] : List Int)) := rfl; exact Lib.hid (own_laid (n := 1) h10 e_ rfl (by unfold maxLen; omega))
  clear h10; have k10 := Lib.hid ht_4; clear ht_4; replace nt_4 := Lib.hid nt_4; have i10 := Lib.hid (Below.step HB.out e10); clear e10; obtain rfl := ret_hid H; go_wp2_with fail; go_ret; have hr_0 := nt_4.out; replace Ot_4 := Lib.hid (own_len hr_0 Ot_4.out); exact ⟨(some ⟨w.heap.size, 0, none⟩), 1, (by first | (rw [hr_0]; done) | (rw [hr_0]; rfl)), Ot_4.out, i10.out⟩
 | true =>
  replace H := let_hid H; obtain ⟨t_2, ht_2, H⟩ := H; obtain rfl : t_2 = false := ht_2.symm; replace H := ite_f H; replace H := let_hid H; obtain ⟨t_6, ht_6, H⟩ := H; obtain ⟨b10, d10⟩ : ∃ x, w.alloc (.cells #[.int .i64 0, .int .i64 1, .int .i64 2, .int .i64 3, .int .i64 4, .int .i64 5, .int .i64 6, .int .i64 7, .int .i64 8, .int .i64 9] 3) = x := ⟨_, rfl⟩; have f10 : Below w.heap.size w b10 := (by rw [← d10]; exact (Below.refl _ _).alloc (Nat.le_refl _) _); have g10 := HB.out.size; have nt_6 : t_6.length = 10 := (by rw [← ht_6]; rfl)
  have Ot_6 : Hid (b10.ownsRow w.heap.size 3 1 (.slice (some ⟨w.heap.size, 0, none⟩) 10 10) 10 (HelpInt.iv t_6)) := by
   rw [← d10, ← ht_6]; have e_ : ([.int .i64 0, .int .i64 1, .int .i64 2, .int .i64 3, .int .i64 4, .int .i64 5, .int .i64 6, .int .i64 7, .int .i64 8, .int .i64 9] : List Value) = (HelpInt.iv ([0, 1, 2, 3, 4, 5, 6, 7, 8, 9] : List Int)) := rfl; exact Lib.hid (own_laid (n := 10) g10 e_ rfl (by unfold maxLen; omega))
  clear g10; have l10 := Lib.hid ht_6; clear ht_6; replace nt_6 := Lib.hid nt_6; have j10 := Lib.hid (Below.step HB.out f10); clear f10; obtain rfl := ret_hid H; go_wp2_with fail; go_ret; have hr_0 := nt_6.out; replace Ot_6 := Lib.hid (own_len hr_0 Ot_6.out); exact ⟨(some ⟨w.heap.size, 0, none⟩), 10, (by first | (rw [hr_0]; done) | (rw [hr_0]; rfl)), Ot_6.out, j10.out⟩
end Go.Proofs.YtihibckijdfidaaGreat.GsL12Zones

namespace Go.Proofs.YtihibckijdfidaaGreat.GsL12Weights
open Go.RowKit
open Go.Proofs.YtihibckijdfidaaGreat.Rowed Go.Proofs.YtihibckijdfidaaGreat.Turn Go.Proofs.YtihibckijdfidaaGreat.Aid Go.Proofs.YtihibckijdfidaaGreat.GoP Go.Proofs.YtihibckijdfidaaGreat.GoM

def l0 (rates : (List PRate.Rate)) (fuel : Nat) (k0 : Nat) (s : (List Int)) (nx0 bk0 : (List Int) → Option ((List Int))) : Option ((List Int)) :=
 letK s fun out_7l0 =>
 Option.bind (idx rates (k0 : Int)) fun (yt_15 : PRate.Rate) =>
 unRate yt_15 fun (t_15_zone : Int) (t_15_grams : Int) (t_15_from_ : Int) (t_15_until_ : Int) (t_15_cents : Int) =>
 letK (decide (t_15_grams < 2000)) fun (t_18 : Bool) =>
 iteK t_18
 (Option.bind (idx rates (k0 : Int)) fun (yt_22 : PRate.Rate) =>
 unRate yt_22 fun (t_22_zone : Int) (t_22_grams : Int) (t_22_from_ : Int) (t_22_until_ : Int) (t_22_cents : Int) =>
 letK (IntKind.i64.wrap (t_22_grams + 1)) fun (t_25 : Int) =>
 Option.bind (GsL1Put.P fuel out_7l0 t_25) fun (t_26 : (List Int)) =>
 appK nx0 (t_26))
 (appK nx0 (out_7l0))

def e0  (s : (List Int)) : Option ((List Int)) :=
 letK s fun out_7l0 =>
 some out_7l0

def P (fuel : Nat) (rates : (List PRate.Rate)) (grams : Int) (free : Bool) : Option ((List Int)) :=
 letK (!free) fun (t_2 : Bool) =>
 iteK t_2
 (letK ([grams]) fun (t_4 : (List Int)) =>
 some t_4)
 (letK ([1]) fun (t_6 : (List Int)) =>
 cntK (l0 rates fuel) (rates.length) 0 (t_6) (e0 ))

set_option maxRecDepth 100000 in
set_option maxHeartbeats 2000000 in
theorem C (fuel : Nat) (rates : (List PRate.Rate)) (grams : Int) (free : Bool) (A0 : Option Addr) (c0 : Nat)  (w : World) (M0 : Hid (Cells w 5 A0 rates.length (PRate.flat rates))) (N0 : Hid (rates.length ≤ 9223372036854775807))  {r : (List Int)} (H : Hid (P fuel rates grams free = some r)) :
  Calls Tryz.prog 81 #[.slice A0 rates.length c0, .int .i64 grams, .bool free] w (fun e w' => ∃ A_r c_r, e = .returned (.slice A_r r.length c_r) ∧ w'.ownsRow w.heap.size 3 1 (.slice A_r r.length c_r) r.length (HelpInt.iv r) ∧ Below w.heap.size w w') := by
 have HB := Lib.hid (Below.refl w.heap.size w); unfold P at H; have N0o := N0.out
 go_enter Tryz.func81, Tryz.ntmps81
 cases free with
 | false =>
  replace H := let_hid H; obtain ⟨t_2, ht_2, H⟩ := H; obtain rfl : t_2 = true := ht_2.symm; replace H := ite_t H; replace H := let_hid H; obtain ⟨t_4, ht_4, H⟩ := H; obtain ⟨x10, v10⟩ : ∃ x, w.alloc (.cells #[.int .i64 grams] 3) = x := ⟨_, rfl⟩; have r10 : Below w.heap.size w x10 := (by rw [← v10]; exact (Below.refl _ _).alloc (Nat.le_refl _) _); have p10 := HB.out.size; have nt_4 : t_4.length = 1 := (by rw [← ht_4]; rfl)
  have Ot_4 : Hid (x10.ownsRow w.heap.size 3 1 (.slice (some ⟨w.heap.size, 0, none⟩) 1 1) 1 (HelpInt.iv t_4)) := by
   rw [← v10, ← ht_4]; have e_ : ([.int .i64 grams] : List Value) = (HelpInt.iv ([grams] : List Int)) := rfl; exact Lib.hid (own_laid (n := 1) p10 e_ rfl (by unfold maxLen; omega))
  clear p10; have s11 := Lib.hid ht_4; clear ht_4; replace nt_4 := Lib.hid nt_4; have n11 := Lib.hid (Below.step HB.out r10); clear r10; obtain rfl := ret_hid H; go_wp2_with fail; go_ret; have hr_0 := nt_4.out; replace Ot_4 := Lib.hid (own_len hr_0 Ot_4.out); exact ⟨(some ⟨w.heap.size, 0, none⟩), 1, (by first | (rw [hr_0]; done) | (rw [hr_0]; rfl)), Ot_4.out, n11.out⟩
 | true =>
  replace H := let_hid H; obtain ⟨t_2, ht_2, H⟩ := H; obtain rfl : t_2 = false := ht_2.symm; replace H := ite_f H; replace H := let_hid H; obtain ⟨t_6, ht_6, H⟩ := H; obtain ⟨a11, s10⟩ : ∃ x, w.alloc (.cells #[.int .i64 1] 3) = x := ⟨_, rfl⟩; have q10 : Below w.heap.size w a11 := (by rw [← s10]; exact (Below.refl _ _).alloc (Nat.le_refl _) _); have y10 := HB.out.size; have nt_6 : t_6.length = 1 := (by rw [← ht_6]; rfl)
  have Ot_6 : Hid (a11.ownsRow w.heap.size 3 1 (.slice (some ⟨w.heap.size, 0, none⟩) 1 1) 1 (HelpInt.iv t_6)) := by
   rw [← s10, ← ht_6]; have e_ : ([.int .i64 1] : List Value) = (HelpInt.iv ([1] : List Int)) := rfl; exact Lib.hid (own_laid (n := 1) y10 e_ rfl (by unfold maxLen; omega))
  clear y10; have g12 := Lib.hid ht_6; clear ht_6; replace nt_6 := Lib.hid nt_6; have f11 := Lib.hid (Below.step HB.out q10); clear q10; go_wp2_with fail; have hc_ := nt_6.out; have hv_ : (Value.slice (some ⟨w.heap.size, 0, none⟩) 1 1 : Value) = Value.slice (some ⟨w.heap.size, 0, none⟩) t_6.length 1 := (by rw [hc_])
  try rw [hv_]
  replace Ot_6 := Lib.hid (own_len hc_ Ot_6.out); clear hc_ hv_; go_wp2_with fail; go_loopg [8, 7] (rates.length) (fun m_ v8_ v7_ wr => ∃ (k0 : Nat) (c10 : (List Int)) (h10 : Option Addr) (e10 : Nat), k0 + m_ = rates.length ∧ v8_ = .int .i64 (k0 : Int) ∧ v7_ = .slice h10 c10.length e10 ∧ Hid (cntK (l0 rates fuel) m_ k0 (c10) (e0 ) = some r) ∧ Hid (Below w.heap.size w wr) ∧ Hid (wr.ownsRow w.heap.size 3 1 (.slice h10 c10.length e10) c10.length (HelpInt.iv c10)))
  case atStart => exact ⟨0, _, _, _, by omega, rfl, rfl, H, f11, Ot_6⟩
  case round =>
   obtain ⟨k0, c10, h10, e10, hkm0, rfl, rfl, H, b10, a10⟩ := hrel; rename World => wr0
   cases gk with
   | zero =>
    obtain rfl : k0 = rates.length := (by omega); have hc0 : decide (((rates.length : Nat) : Int) < ((rates.length : Nat) : Int)) = false := (by simp); replace H := cnt_zero H; unfold e0 at H; replace H := let_hid H; obtain ⟨_, rfl, H⟩ := H; obtain rfl := ret_hid H; go_wp2_with fail; go_ret; exact ⟨h10, e10, rfl, a10.out, b10.out⟩
   | succ m0 =>
    have hlt0 : k0 < rates.length := (by omega); have hc0 : decide ((k0 : Int) < ((rates.length : Nat) : Int)) = true := (by simp; omega); replace H := cnt_succ H; unfold l0 at H; replace H := let_hid H; obtain ⟨_, rfl, H⟩ := H; replace H := idx_hid H; obtain ⟨h11, k11, e11, d11, t10, H⟩ := H; obtain rfl : k0 = h11 := (by omega); clear e11; obtain ⟨x11, o11, q11, v11, c12⟩ := k11; replace H := unRate_hid H; obtain ⟨w11, f12, e12, b11, z10, f10, k10, i10, l10, j10⟩ := ORate.at_ M0.out d11; obtain rfl := Option.some.inj (t10.out.symm.trans z10); subst b11; have g10 := cell_lt f10; replace f10 := cell_below b10.out f10; replace k10 := cell_below b10.out k10; replace i10 := cell_below b10.out i10; replace l10 := cell_below b10.out l10; replace j10 := cell_below b10.out j10; clear z10; have i12 : (0 : Int) ≤ (k0 : Int) := (by omega); have a12 : (k0 : Int) < ((rates.length : Nat) : Int) := (by omega); have t11 : ((k0 : Int)).toNat = k0 := (by omega); replace H := let_hid H; obtain ⟨t_18, p11, H⟩ := H
    cases t_18 with
    | false =>
     replace H := ite_f H; replace H := app_hid H; go_wp2_with fail
     go_roundg m0
     case measure => omega
     case rel => exact ⟨k0 + 1, _, _, _, by omega, by go_num, rfl, H, b10, a10⟩
    | true =>
     replace H := ite_t H; replace H := idx_hid H; obtain ⟨m11, y11, i11, c11, o10, H⟩ := H; obtain rfl : k0 = m11 := (by omega); clear i11; obtain rfl := Option.some.inj (t10.out.symm.trans o10.out); clear o10 c11; replace H := unRate_hid H; replace H := let_hid H; obtain ⟨t_25, d12, H⟩ := H; replace H := bind_hid H; obtain ⟨t_26, g11, H⟩ := H; go_wp2_with fail; go_at_call 95; refine (GsL1Put.C fuel (c10) (t_25) h10 e10 w.heap.size _   a10 (Lib.hid (own_max a10.out)) (Lib.hid (own_room a10.out)) (Lib.hid b10.out.size)  g11).mono ?_; rintro r11 z11 ⟨h12, b12, rfl, w10, n10, m10⟩; have l11 := Lib.hid w10; have d10 := Lib.hid n10; replace m10 := Lib.hid m10; clear w10 n10; have j11 := Lib.hid (b10.out.grown d10.out b10.out.size (fun q hq => (a10.out.lt q hq).1)); replace f10 := cell_other f10 d10.out (apart_old a10.out g10); replace k10 := cell_other k10 d10.out (apart_old a10.out g10); replace i10 := cell_other i10 d10.out (apart_old a10.out g10); replace l10 := cell_other l10 d10.out (apart_old a10.out g10); replace j10 := cell_other j10 d10.out (apart_old a10.out g10); clear a10 d10 m10; replace H := app_hid H; go_wp2_with fail
     go_roundg m0
     case measure => omega
     case rel => exact ⟨k0 + 1, _, _, _, by omega, by go_num, rfl, H, j11, l11⟩
end Go.Proofs.YtihibckijdfidaaGreat.GsL12Weights

namespace Go.Proofs.YtihibckijdfidaaGreat.GsL12Explained
open Go.RowKit
open Go.Proofs.YtihibckijdfidaaGreat.Rowed Go.Proofs.YtihibckijdfidaaGreat.Turn Go.Proofs.YtihibckijdfidaaGreat.Aid Go.Proofs.YtihibckijdfidaaGreat.GoP Go.Proofs.YtihibckijdfidaaGreat.GoM

def P (rates : (List PRate.Rate)) (x : PCover.Cover) : Option (Bool) :=
 unCover x fun (x_id : Int) (x_day : Int) (x_zone : Int) (x_grams : Int) (x_paid : Int) (x_from_ : Int) (x_to_ : Int) (x_leave : Int) (x_arrive : Int) =>
 Option.bind (GsL8For.P rates x_day x_zone x_grams) fun (t_9 : Int) =>
 letK (t_9 == x_paid) fun (t_12 : Bool) =>
 some t_12

set_option maxRecDepth 100000 in
set_option maxHeartbeats 2000000 in
theorem C (rates : (List PRate.Rate)) (x : PCover.Cover) (A0 : Option Addr) (c0 : Nat)  (w : World) (M0 : Hid (Cells w 5 A0 rates.length (PRate.flat rates))) (N0 : Hid (rates.length ≤ 9223372036854775807))  {r : Bool} (H : Hid (P rates x = some r)) :
  Calls Tryz.prog 42 #[.slice A0 rates.length c0, x.val] w (Gives (.bool r) w) := by
 have HB := Lib.hid (Below.refl w.heap.size w); unfold P at H; obtain ⟨x_id, x_day, x_zone, x_grams, x_paid, x_from_, x_to_, x_leave, x_arrive⟩ := x; replace H := unCover_hid H; unfold PCover.Cover.val; have N0o := N0.out
 go_enter Tryz.func42, Tryz.ntmps42
 obtain ⟨a10, b10⟩ : ∃ x, w.alloc (.cells #[.int .i64 x_id, .int .i64 x_day, .int .i64 x_zone, .int .i64 x_grams, .int .i64 x_paid, .int .i64 x_from_, .int .i64 x_to_, .int .i64 x_leave, .int .i64 x_arrive] 26) = x := ⟨_, rfl⟩; have m10 : Below w.heap.size w a10 := (by rw [← b10]; exact (Below.refl _ _).alloc (Nat.le_refl _) _); have t10 := Lib.hid (Below.step HB.out m10); clear m10; have g10 : a10.cell? ⟨w.heap.size, 0, none⟩ = some (.int .i64 x_id) := (by rw [← b10]; exact box_new _ _ _ 0 _ rfl); have h10 : a10.cell? ⟨w.heap.size, 1, none⟩ = some (.int .i64 x_day) := (by rw [← b10]; exact box_new _ _ _ 1 _ rfl); have k10 : a10.cell? ⟨w.heap.size, 2, none⟩ = some (.int .i64 x_zone) := (by rw [← b10]; exact box_new _ _ _ 2 _ rfl); have f10 : a10.cell? ⟨w.heap.size, 3, none⟩ = some (.int .i64 x_grams) := (by rw [← b10]; exact box_new _ _ _ 3 _ rfl); have e10 : a10.cell? ⟨w.heap.size, 4, none⟩ = some (.int .i64 x_paid) := (by rw [← b10]; exact box_new _ _ _ 4 _ rfl); have d10 : a10.cell? ⟨w.heap.size, 5, none⟩ = some (.int .i64 x_from_) := (by rw [← b10]; exact box_new _ _ _ 5 _ rfl); have c10 : a10.cell? ⟨w.heap.size, 6, none⟩ = some (.int .i64 x_to_) := (by rw [← b10]; exact box_new _ _ _ 6 _ rfl); have j10 : a10.cell? ⟨w.heap.size, 7, none⟩ = some (.int .i64 x_leave) := (by rw [← b10]; exact box_new _ _ _ 7 _ rfl); have i10 : a10.cell? ⟨w.heap.size, 8, none⟩ = some (.int .i64 x_arrive) := (by rw [← b10]; exact box_new _ _ _ 8 _ rfl); go_wp2_with fail; have s10 := Lib.hid g10; replace g10 := cell_regrown g10; have v10 := Lib.hid h10; replace h10 := cell_regrown h10; have o10 := Lib.hid k10; replace k10 := cell_regrown k10; have p10 := Lib.hid f10; replace f10 := cell_regrown f10; have w10 := Lib.hid e10; replace e10 := cell_regrown e10; have l10 := Lib.hid d10; replace d10 := cell_regrown d10; have n10 := Lib.hid c10; replace c10 := cell_regrown c10; have r10 := Lib.hid j10; replace j10 := cell_regrown j10; have q10 := Lib.hid i10; replace i10 := cell_regrown i10; replace H := bind_hid H; obtain ⟨t_9, qt_9, H⟩ := H; have nt_9 : ∀ d os, Calls Tryz.prog 82 #[.slice A0 rates.length c0, .int .i64 x_day, .int .i64 x_zone, .int .i64 x_grams] (Go.Sort.grow (redrawn a10 d) os) fun e w'' => e = .returned (.int .i64 t_9) ∧ ∃ p : Regrown, w'' = Go.Sort.grow (redrawn a10 p.d) p.os := fun d os => Calls.regrown_of (GsL8For.C (rates) (x_day) (x_zone) (x_grams) A0 c0 _   (Lib.hid (Cells.below (Cells.below M0.out t10.out) (below_regrown _ _ _))) N0 qt_9); replace H := let_hid H; obtain ⟨t_12, x10, H⟩ := H; refine wp_region_quiet_below (by kernel_rfl) (by kernel_rfl) ?_
 repeat (go_big_quiet_step (first | (go_at_call 82; exact nt_9 _ _)))
 refine wpQuiet_nil ?_; intro Y1 hY1; replace hY1 := below_class hY1; clear nt_9; replace g10 := s10.out; clear s10; replace h10 := v10.out; clear v10; replace k10 := o10.out; clear o10; replace f10 := p10.out; clear p10; replace e10 := w10.out; clear w10; replace d10 := l10.out; clear l10; replace c10 := n10.out; clear n10; replace j10 := r10.out; clear r10; replace i10 := q10.out; clear q10; have HBY1 := Lib.hid (Below.step t10.out hY1); replace g10 := cell_below hY1 g10; replace h10 := cell_below hY1 h10; replace k10 := cell_below hY1 k10; replace f10 := cell_below hY1 f10; replace e10 := cell_below hY1 e10; replace d10 := cell_below hY1 d10; replace c10 := cell_below hY1 c10; replace j10 := cell_below hY1 j10; replace i10 := cell_below hY1 i10; clear hY1; obtain rfl := ret_hid H; go_wp2_with fail; go_ret; exact ⟨rfl, HBY1.out⟩
end Go.Proofs.YtihibckijdfidaaGreat.GsL12Explained

