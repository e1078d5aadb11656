/- Texts on which the proofs of several laws stand, one behind the other (6 of 20). No condition of their own. -/
import Derived.Test.YtpaakpbbahbhcaaChecked
import Derived.Test.YtpaakpbbahbhcaaX13P1
import Derived.Test.YtpaakpbbahbhcaaX13P5
import Derived.Test.YtpaakpbbahbhcaaX13P2
import Derived.WalkKit
import Derived.WalkSpells
import Derived.WalkLawsBesides
import Derived.BigQuiet
import Derived.OwnWalk
import Derived.Deep.LoopGhost
import Derived.Deep.QuietTactic
import Derived.IntWalk
import Derived.Lib.QuietBelow
import Derived.Deep.RegionHeld3
import Derived.ScopeJumps
/- loop.example/g01062/spec.l1Put as a plain function, and the contract of the program's: where the plain one has an answer, the program has it. Conditions: slices read as lists. -/
namespace Go.Proofs.Ytpaakpbbahbhcaa.GsL1Put
set_option linter.unusedVariables false
set_option linter.unusedSimpArgs false
open Go.RowKit
open Go.Proofs.Ytpaakpbbahbhcaa.Rowed Go.Proofs.Ytpaakpbbahbhcaa.Turn Go.Proofs.Ytpaakpbbahbhcaa.Aid Go.Proofs.Ytpaakpbbahbhcaa.GoP Go.Proofs.Ytpaakpbbahbhcaa.GoM

def l0 (l : (List Int)) (n_1 : Int) (s : Int) (nx0 bk0 : Int → Option ((List Int))) : Option ((List Int)) :=
  letK s fun k_5l0 =>
  letK (decide (k_5l0 < (l.length : Int))) fun (t_5 : Bool) =>
  joinK (fun (t_13 : Bool) =>
  iteK t_13
  (letK (IntKind.i64.wrap (k_5l0 + 1)) fun (t_15 : Int) =>
  appK nx0 (t_15))
  (appK bk0 (k_5l0))) fun jt_13 => iteK t_5 (Option.bind (idx l k_5l0) fun (yt_9 : Int) =>
  letK (decide (yt_9 < n_1)) fun (t_12 : Bool) =>
  appK jt_13 t_12) (appK jt_13 false)

def e0 (l : (List Int)) (n_1 : Int) (s : Int) : Option ((List Int)) :=
  letK s fun k_5l0 =>
  letK (decide (k_5l0 < (l.length : Int))) fun (t_20 : Bool) =>
  joinK (fun (t_28 : Bool) =>
  iteK t_28
  (some l)
  (guardK ((0 : Int) ≤ k_5l0 ∧ (k_5l0 : Int) ≤ (l.length : Int)) <|
  letK (List.take (Int.toNat k_5l0) l) fun (t_34 : (List Int)) =>
  guardK (([] : List Int).length + t_34.length ≤ 1099511627776) <|
  letK (([] : List Int) ++ t_34) fun (t_35 : (List Int)) =>
  guardK (t_35.length ≤ 1099511627776) <|
  letK (t_35 ++ [n_1]) fun (t_38 : (List Int)) =>
  guardK ((0 : Int) ≤ k_5l0 ∧ (k_5l0 : Int) ≤ (l.length : Int)) <|
  letK (List.drop (Int.toNat k_5l0) l) fun (t_41 : (List Int)) =>
  guardK (t_38.length + t_41.length ≤ 1099511627776) <|
  letK (t_38 ++ t_41) fun (t_42 : (List Int)) =>
  some t_42)) fun jt_28 => iteK t_20 (Option.bind (idx l k_5l0) fun (yt_24 : Int) =>
  letK (yt_24 == n_1) fun (t_27 : Bool) =>
  appK jt_28 t_27) (appK jt_28 false)

def P (fuel : Nat) (l : (List Int)) (n_1 : Int) : Option ((List Int)) :=
  loopK (l0 l n_1) fuel (0) (e0 l n_1)

set_option maxRecDepth 100000 in
set_option maxHeartbeats 2000000 in
theorem C1 (fuel : Nat) (l : (List Int)) (n_1 : Int) (A0 : Option Addr) (c0 : Nat)  (w : World) (M0 : Hid (Cells w 1 A0 l.length (Go.Proofs.Ytpaakpbbahbhcaa.HelpInt.iv l))) (N0 : Hid (l.length ≤ 9223372036854775807)) (Q0 : Hid (Room A0 l.length c0))  {r : (List Int)} (H : Hid (P fuel l n_1 = some r)) :
    Calls Try.prog 73 #[.slice A0 l.length c0, .int .i64 n_1] w (fun e w' => ∃ A_r c_r, e = .returned (.slice A_r r.length c_r) ∧ Hid ((A_r = A0 ∧ c_r = c0 ∧ r = l) ∨ w'.ownsRow w.heap.size 3 1 (.slice A_r r.length c_r) r.length (Go.Proofs.Ytpaakpbbahbhcaa.HelpInt.iv r)) ∧ Below w.heap.size w w') := by
  have HB := Lib.hid (Below.refl w.heap.size w)
  unfold P at H
  have N0o := N0.out
  obtain ⟨i0_3, hi_3, hz0_3, hz1_3, hz2_3⟩ := Aid.info_parts (P := Try.prog) (T := 3) (z := .int .i64 0) (s := 1) (b := 8) (by kernel_rfl)
  go_enter Try.func73, Try.ntmps73
  go_wp2_with fail
  go_loopg [5] (fuel) (fun m_ v5_ wr => ∃ (k_5l0 : Int), v5_ = .int .i64 k_5l0 ∧ Hid (loopK (l0 l n_1) m_ (k_5l0) (e0 l n_1) = some r) ∧ Hid (Below w.heap.size w wr))
  case atStart => exact ⟨_, rfl, H, HB⟩
  case round =>
    obtain ⟨k_5l0, rfl, H, HBwr0⟩ := hrel
    rename World => wr0
    cases gk with
    | zero => exact (loop_zero H).elim
    | succ m0 =>
      replace H := loop_succ H
      unfold l0 at H
      replace H := let_hid H
      obtain ⟨_, rfl, H⟩ := H
      replace H := let_hid H
      obtain ⟨t_5, ht_5, H⟩ := H
      replace H := join_hid H
      cases t_5 with
      | false =>
        replace H := ite_f H
        replace H := app_hid H
        replace H := ite_f H
        replace H := app_hid H
        unfold e0 at H
        replace H := let_hid H
        obtain ⟨_, rfl, H⟩ := H
        replace H := let_hid H
        obtain ⟨t_20, ht_20, H⟩ := H
        obtain rfl := ht_5.symm.trans ht_20
        replace H := join_hid H
        replace H := ite_f H
        replace H := app_hid H
        replace H := ite_f H
        go_wp2_with fail
        have bd6 : Below wr0.heap.size wr0 wr0.drew := (Below.refl _ _).drew
        have HBwr0.drew := Lib.hid (Below.step HBwr0.out bd6)
        clear bd6
        replace H := guard_hid H
        obtain ⟨hl_t_34, H⟩ := H
        replace H := let_hid H
        obtain ⟨t_34, ht_34, H⟩ := H
        have dt_34 : ((Go.Proofs.Ytpaakpbbahbhcaa.HelpInt.iv l)).take (Int.toNat k_5l0 * 1) = (Go.Proofs.Ytpaakpbbahbhcaa.HelpInt.iv t_34) := by
          rw [← ht_34]
          simp [Go.Proofs.Ytpaakpbbahbhcaa.HelpInt.iv, List.map_take]
        have nt_34 : Int.toNat k_5l0 = t_34.length := by rw [← ht_34, List.length_take]; omega
        obtain ⟨rt_34, Mt_34, Qt_34⟩ := slice_headB (P := Try.prog) (t := 32) (e := 3) (k := .i64) (by kernel_rfl) (by kernel_rfl) hi_3 hz1_3 M0.out Q0.out hl_t_34 nt_34 dt_34
        have Nt_34 : Hid (t_34.length ≤ 9223372036854775807) := Lib.hid (by have := N0.out; omega)
        replace Mt_34 := Lib.hid Mt_34
        replace Qt_34 := Lib.hid Qt_34
        clear dt_34 nt_34 hl_t_34
        have hht_34 := Lib.hid ht_34
        clear ht_34
        replace H := guard_hid H
        obtain ⟨hlt_35, H⟩ := H
        replace H := let_hid H
        obtain ⟨t_35, ht_35, H⟩ := H
        have hht_35 := Lib.hid ht_35
        clear ht_35
        replace H := guard_hid H
        obtain ⟨hlt_38, H⟩ := H
        replace H := let_hid H
        obtain ⟨t_38, ht_38, H⟩ := H
        have hht_38 := Lib.hid ht_38
        clear ht_38
        replace H := guard_hid H
        obtain ⟨hl_t_41, H⟩ := H
        replace H := let_hid H
        obtain ⟨t_41, ht_41, H⟩ := H
        have dt_41 : ((Go.Proofs.Ytpaakpbbahbhcaa.HelpInt.iv l)).drop (Int.toNat k_5l0 * 1) = (Go.Proofs.Ytpaakpbbahbhcaa.HelpInt.iv t_41) := by
          rw [← ht_41]
          simp [Go.Proofs.Ytpaakpbbahbhcaa.HelpInt.iv, List.map_drop]
        have nt_41 : l.length - Int.toNat k_5l0 = t_41.length := by rw [← ht_41, List.length_drop]
        obtain ⟨At_41, ct_41, rt_41, Mt_41, Qt_41⟩ := slice_tail (P := Try.prog) (t := 32) (e := 3) (k := .i64) (by kernel_rfl) (by kernel_rfl) hi_3 hz1_3 M0.out Q0.out hl_t_41 nt_41 dt_41
        have Nt_41 : Hid (t_41.length ≤ 9223372036854775807) := Lib.hid (by have := N0.out; omega)
        replace Mt_41 := Lib.hid Mt_41
        replace Qt_41 := Lib.hid Qt_41
        clear dt_41 nt_41 hl_t_41
        have hht_41 := Lib.hid ht_41
        clear ht_41
        have Not_41 := Nt_41.out
        replace H := guard_hid H
        obtain ⟨hlt_42, H⟩ := H
        replace H := let_hid H
        obtain ⟨t_42, ht_42, H⟩ := H
        have hht_42 := Lib.hid ht_42
        clear ht_42
        obtain ⟨w_t_31_p83, hw_t_31_p83⟩ : ∃ x, wr0.drew.alloc (.cells #[] 3) = x := ⟨_, rfl⟩
        have bw_t_31_p83 : Below wr0.drew.heap.size wr0.drew w_t_31_p83 := by rw [← hw_t_31_p83]; exact (Below.refl _ _).alloc (Nat.le_refl _) _
        have Ot_31_p83 : Hid (w_t_31_p83.ownsRow w.heap.size 3 1 (.slice (some ⟨wr0.heap.size, 0, none⟩) 0 0) 0 []) := Lib.hid (by rw [← hw_t_31_p83]; exact own_empty HBwr0.drew.out.size)
        have HBw_t_31_p83 := Lib.hid (Below.step HBwr0.drew.out bw_t_31_p83)
        obtain ⟨w_t_37_p88, hw_t_37_p88⟩ : ∃ x, w_t_31_p83.alloc (.cells #[.int .i64 n_1] 3) = x := ⟨_, rfl⟩
        have bw_t_37_p88 : Below w_t_31_p83.heap.size w_t_31_p83 w_t_37_p88 := by rw [← hw_t_37_p88]; exact (Below.refl _ _).alloc (Nat.le_refl _) _
        have Ot_37_p88 : Hid (w_t_37_p88.ownsRow w.heap.size 3 1 (.slice (some ⟨w_t_31_p83.heap.size, 0, none⟩) 1 1) 1 [.int .i64 n_1]) := Lib.hid (by rw [← hw_t_37_p88]; exact own_laid (n := 1) HBw_t_31_p83.out.size (rfl : ([.int .i64 n_1] : List Value) = [.int .i64 n_1]) rfl (by unfold maxLen; omega))
        have Dt_37_t_31_p88 := Lib.hid (apart_fresh Ot_31_p83.out)
        have HBw_t_37_p88 := Lib.hid (Below.step HBw_t_31_p83.out bw_t_37_p88)
        have Ot_31_p83_p88 := Lib.hid (own_below Ot_31_p83.out bw_t_37_p88)
        obtain ⟨w_t_37_p92, hw_t_37_p92⟩ : ∃ x, wr0.drew.alloc (.cells #[.int .i64 n_1] 3) = x := ⟨_, rfl⟩
        have bw_t_37_p92 : Below wr0.drew.heap.size wr0.drew w_t_37_p92 := by rw [← hw_t_37_p92]; exact (Below.refl _ _).alloc (Nat.le_refl _) _
        have Ot_37_p92 : Hid (w_t_37_p92.ownsRow w.heap.size 3 1 (.slice (some ⟨wr0.heap.size, 0, none⟩) 1 1) 1 [.int .i64 n_1]) := Lib.hid (by rw [← hw_t_37_p92]; exact own_laid (n := 1) HBwr0.drew.out.size (rfl : ([.int .i64 n_1] : List Value) = [.int .i64 n_1]) rfl (by unfold maxLen; omega))
        have HBw_t_37_p92 := Lib.hid (Below.step HBwr0.drew.out bw_t_37_p92)
        obtain ⟨w_t_31_p93, hw_t_31_p93⟩ : ∃ x, w_t_37_p92.alloc (.cells #[] 3) = x := ⟨_, rfl⟩
        have bw_t_31_p93 : Below w_t_37_p92.heap.size w_t_37_p92 w_t_31_p93 := by rw [← hw_t_31_p93]; exact (Below.refl _ _).alloc (Nat.le_refl _) _
        have Ot_31_p93 : Hid (w_t_31_p93.ownsRow w.heap.size 3 1 (.slice (some ⟨w_t_37_p92.heap.size, 0, none⟩) 0 0) 0 []) := Lib.hid (by rw [← hw_t_31_p93]; exact own_empty HBw_t_37_p92.out.size)
        have Dt_31_t_37_p93 := Lib.hid (apart_fresh Ot_37_p92.out)
        have HBw_t_31_p93 := Lib.hid (Below.step HBw_t_37_p92.out bw_t_31_p93)
        have Ot_37_p92_p93 := Lib.hid (own_below Ot_37_p92.out bw_t_31_p93)
        go_region_held3 (fun w' => Hid (0 ≤ w'.heap.size)) (first | exact Lib.hid (Nat.zero_le _))
            (first
              | (have hst_35_p84 := HBw_t_31_p83.out.size
                 have Ct_35_p84 := Lib.hid ((Cells.below Mt_34.out HBw_t_31_p83.out))
                 have h1t_35_p84 : 0 + t_34.length ≤ maxLen := by have h_ := hlt_35; simp only [List.length_nil] at h_; unfold maxLen; omega
                 have h2t_35_p84 : (0 + t_34.length) * 8 ≤ 140737488355328 := by have h_ := hlt_35; simp only [List.length_nil] at h_; omega
                 refine Go.Proofs.Ytpaakpbbahbhcaa.GoH.step_spread_own (w := w_t_31_p83) rfl (.tmp 33) (.tmp 36) 32 rfl w.heap.size 3 i0_3 (.int .i64 0) 1 8 Try.underlying32 hi_3 hz0_3 hz1_3 hz2_3 rfl (by decide) (some ⟨wr0.heap.size, 0, none⟩) 0 0 _ rfl Ot_31_p83.out A0 t_34.length c0 (Go.Proofs.Ytpaakpbbahbhcaa.HelpInt.iv t_34) rfl Qt_34.out Ct_35_p84.out (fun u hu => by unfold Go.Proofs.Ytpaakpbbahbhcaa.HelpInt.iv at hu; obtain ⟨y_, _, rfl⟩ := List.mem_map.1 hu; rfl) h1t_35_p84 h2t_35_p84 hst_35_p84 ?_
                 intro vt_35_p84 wt_35_p84 ot_35_p84 gt_35_p84 yt_35_p84
                 obtain ⟨At_35_p84, ct_35_p84, rfl, pt_35_p84⟩ := own_pushS (f := Go.Proofs.Ytpaakpbbahbhcaa.HelpInt.iv) hht_35.out (by simp [Go.Proofs.Ytpaakpbbahbhcaa.HelpInt.iv]) rfl ot_35_p84
                 have Pt_35_p84 := Lib.hid pt_35_p84
                 have Yt_35_p84 := Lib.hid yt_35_p84
                 have Gt_35_p84 := Lib.hid gt_35_p84
                 have HBwt_35_p84 := Lib.hid (HBw_t_31_p83.out.grown Gt_35_p84.out hst_35_p84 (fun q hq => (Ot_31_p83.out.lt q hq).1))
                 obtain ⟨w_t_37_p85, hw_t_37_p85⟩ : ∃ x, wt_35_p84.alloc (.cells #[.int .i64 n_1] 3) = x := ⟨_, rfl⟩
                 have bw_t_37_p85 : Below wt_35_p84.heap.size wt_35_p84 w_t_37_p85 := by rw [← hw_t_37_p85]; exact (Below.refl _ _).alloc (Nat.le_refl _) _
                 have Ot_37_p85 : Hid (w_t_37_p85.ownsRow w.heap.size 3 1 (.slice (some ⟨wt_35_p84.heap.size, 0, none⟩) 1 1) 1 [.int .i64 n_1]) := Lib.hid (by rw [← hw_t_37_p85]; exact own_laid (n := 1) HBwt_35_p84.out.size (rfl : ([.int .i64 n_1] : List Value) = [.int .i64 n_1]) rfl (by unfold maxLen; omega))
                 have Dt_37_t_35_p85 := Lib.hid (apart_fresh Pt_35_p84.out)
                 have HBw_t_37_p85 := Lib.hid (Below.step HBwt_35_p84.out bw_t_37_p85)
                 have Pt_35_p84_p85 := Lib.hid (own_below Pt_35_p84.out bw_t_37_p85))
              | (have hst_38_p86 := HBw_t_37_p85.out.size
                 have h1t_38_p86 : t_35.length + 1 ≤ maxLen := by unfold maxLen; omega
                 have h2t_38_p86 : (t_35.length + 1) * 8 ≤ 140737488355328 := by omega
                 have h3t_38_p86 := Ot_37_p85.out.cells rfl
                 refine Go.Proofs.Ytpaakpbbahbhcaa.GoH.step_append_own (w := w_t_37_p85) rfl (.tmp 37) (.tmp 39) 32 rfl w.heap.size 3 i0_3 (.int .i64 0) 1 8 Try.underlying32 hi_3 hz0_3 hz1_3 hz2_3 rfl (by decide) At_35_p84 ct_35_p84 t_35.length _ rfl Pt_35_p84_p85.out ⟨wt_35_p84.heap.size, 0, none⟩ 1 [.int .i64 n_1] rfl rfl h3t_38_p86 (one_cells rfl) h1t_38_p86 h2t_38_p86 hst_38_p86 ?_
                 intro vt_38_p86 wt_38_p86 ot_38_p86 gt_38_p86 yt_38_p86
                 obtain ⟨qt_38_p86, ct_38_p86, rfl, pt_38_p86⟩ := own_push hht_38.out (Go.Proofs.Ytpaakpbbahbhcaa.HelpInt.iv_snoc _ _) rfl ot_38_p86
                 have Pt_38_p86 := Lib.hid pt_38_p86
                 have Yt_38_p86 := Lib.hid yt_38_p86
                 have Gt_38_p86 := Lib.hid gt_38_p86
                 have HBwt_38_p86 := Lib.hid (HBw_t_37_p85.out.grown Gt_38_p86.out hst_38_p86 (fun q hq => (Pt_35_p84_p85.out.lt q hq).1))
                 have Dt_38_t_37_p86 : Hid (Apart (some ⟨qt_38_p86, 0, none⟩) _) := Lib.hid (apart_app (Apart.symm Dt_37_t_35_p85.out) (fun a_ ha_ => (own_lt Ot_37_p85.out a_ ha_).2) Yt_38_p86.out)
                 have Ot_37_p85_p86 := Lib.hid (own_other Ot_37_p85.out Gt_38_p86.out (Apart.symm Dt_37_t_35_p85.out)))
              | (have hst_42_p87 := HBwt_38_p86.out.size
                 have Ct_42_p87 := Lib.hid ((Cells.below Mt_41.out HBwt_38_p86.out))
                 have h1t_42_p87 : t_38.length + t_41.length ≤ maxLen := by have h_ := hlt_42; unfold maxLen; omega
                 have h2t_42_p87 : (t_38.length + t_41.length) * 8 ≤ 140737488355328 := by have h_ := hlt_42; omega
                 refine Go.Proofs.Ytpaakpbbahbhcaa.GoH.step_spread_own (w := wt_38_p86) rfl (.tmp 40) (.tmp 43) 32 rfl w.heap.size 3 i0_3 (.int .i64 0) 1 8 Try.underlying32 hi_3 hz0_3 hz1_3 hz2_3 rfl (by decide) (some ⟨qt_38_p86, 0, none⟩) ct_38_p86 t_38.length _ rfl Pt_38_p86.out At_41 t_41.length ct_41 (Go.Proofs.Ytpaakpbbahbhcaa.HelpInt.iv t_41) rfl Qt_41.out Ct_42_p87.out (fun u hu => by unfold Go.Proofs.Ytpaakpbbahbhcaa.HelpInt.iv at hu; obtain ⟨y_, _, rfl⟩ := List.mem_map.1 hu; rfl) h1t_42_p87 h2t_42_p87 hst_42_p87 ?_
                 intro vt_42_p87 wt_42_p87 ot_42_p87 gt_42_p87 yt_42_p87
                 obtain ⟨At_42_p87, ct_42_p87, rfl, pt_42_p87⟩ := own_pushS (f := Go.Proofs.Ytpaakpbbahbhcaa.HelpInt.iv) hht_42.out (by simp [Go.Proofs.Ytpaakpbbahbhcaa.HelpInt.iv]) rfl ot_42_p87
                 have Pt_42_p87 := Lib.hid pt_42_p87
                 have Yt_42_p87 := Lib.hid yt_42_p87
                 have Gt_42_p87 := Lib.hid gt_42_p87
                 have HBwt_42_p87 := Lib.hid (HBwt_38_p86.out.grown Gt_42_p87.out hst_42_p87 (fun q hq => (Pt_38_p86.out.lt q hq).1)))
              | (have hst_35_p89 := HBw_t_37_p88.out.size
                 have Ct_35_p89 := Lib.hid ((Cells.below Mt_34.out HBw_t_37_p88.out))
                 have h1t_35_p89 : 0 + t_34.length ≤ maxLen := by have h_ := hlt_35; simp only [List.length_nil] at h_; unfold maxLen; omega
                 have h2t_35_p89 : (0 + t_34.length) * 8 ≤ 140737488355328 := by have h_ := hlt_35; simp only [List.length_nil] at h_; omega
                 refine Go.Proofs.Ytpaakpbbahbhcaa.GoH.step_spread_own (w := w_t_37_p88) rfl (.tmp 33) (.tmp 36) 32 rfl w.heap.size 3 i0_3 (.int .i64 0) 1 8 Try.underlying32 hi_3 hz0_3 hz1_3 hz2_3 rfl (by decide) (some ⟨wr0.heap.size, 0, none⟩) 0 0 _ rfl Ot_31_p83_p88.out A0 t_34.length c0 (Go.Proofs.Ytpaakpbbahbhcaa.HelpInt.iv t_34) rfl Qt_34.out Ct_35_p89.out (fun u hu => by unfold Go.Proofs.Ytpaakpbbahbhcaa.HelpInt.iv at hu; obtain ⟨y_, _, rfl⟩ := List.mem_map.1 hu; rfl) h1t_35_p89 h2t_35_p89 hst_35_p89 ?_
                 intro vt_35_p89 wt_35_p89 ot_35_p89 gt_35_p89 yt_35_p89
                 obtain ⟨At_35_p89, ct_35_p89, rfl, pt_35_p89⟩ := own_pushS (f := Go.Proofs.Ytpaakpbbahbhcaa.HelpInt.iv) hht_35.out (by simp [Go.Proofs.Ytpaakpbbahbhcaa.HelpInt.iv]) rfl ot_35_p89
                 have Pt_35_p89 := Lib.hid pt_35_p89
                 have Yt_35_p89 := Lib.hid yt_35_p89
                 have Gt_35_p89 := Lib.hid gt_35_p89
                 have HBwt_35_p89 := Lib.hid (HBw_t_37_p88.out.grown Gt_35_p89.out hst_35_p89 (fun q hq => (Ot_31_p83_p88.out.lt q hq).1))
                 have Dt_35_t_37_p89 : Hid (Apart At_35_p89 _) := Lib.hid (apart_app (Apart.symm Dt_37_t_31_p88.out) (fun a_ ha_ => (own_lt Ot_37_p88.out a_ ha_).2) Yt_35_p89.out)
                 have Ot_37_p88_p89 := Lib.hid (own_other Ot_37_p88.out Gt_35_p89.out (Apart.symm Dt_37_t_31_p88.out)))
              | (have hst_38_p90 := HBwt_35_p89.out.size
                 have h1t_38_p90 : t_35.length + 1 ≤ maxLen := by unfold maxLen; omega
                 have h2t_38_p90 : (t_35.length + 1) * 8 ≤ 140737488355328 := by omega
                 have h3t_38_p90 := Ot_37_p88_p89.out.cells rfl
                 refine Go.Proofs.Ytpaakpbbahbhcaa.GoH.step_append_own (w := wt_35_p89) rfl (.tmp 37) (.tmp 39) 32 rfl w.heap.size 3 i0_3 (.int .i64 0) 1 8 Try.underlying32 hi_3 hz0_3 hz1_3 hz2_3 rfl (by decide) At_35_p89 ct_35_p89 t_35.length _ rfl Pt_35_p89.out ⟨w_t_31_p83.heap.size, 0, none⟩ 1 [.int .i64 n_1] rfl rfl h3t_38_p90 (one_cells rfl) h1t_38_p90 h2t_38_p90 hst_38_p90 ?_
                 intro vt_38_p90 wt_38_p90 ot_38_p90 gt_38_p90 yt_38_p90
                 obtain ⟨qt_38_p90, ct_38_p90, rfl, pt_38_p90⟩ := own_push hht_38.out (Go.Proofs.Ytpaakpbbahbhcaa.HelpInt.iv_snoc _ _) rfl ot_38_p90
                 have Pt_38_p90 := Lib.hid pt_38_p90
                 have Yt_38_p90 := Lib.hid yt_38_p90
                 have Gt_38_p90 := Lib.hid gt_38_p90
                 have HBwt_38_p90 := Lib.hid (HBwt_35_p89.out.grown Gt_38_p90.out hst_38_p90 (fun q hq => (Pt_35_p89.out.lt q hq).1))
                 have Dt_38_t_37_p90 : Hid (Apart (some ⟨qt_38_p90, 0, none⟩) _) := Lib.hid (apart_app Dt_35_t_37_p89.out (fun a_ ha_ => (own_lt Ot_37_p88_p89.out a_ ha_).2) Yt_38_p90.out)
                 have Ot_37_p88_p89_p90 := Lib.hid (own_other Ot_37_p88_p89.out Gt_38_p90.out Dt_35_t_37_p89.out))
              | (have hst_42_p91 := HBwt_38_p90.out.size
                 have Ct_42_p91 := Lib.hid ((Cells.below Mt_41.out HBwt_38_p90.out))
                 have h1t_42_p91 : t_38.length + t_41.length ≤ maxLen := by have h_ := hlt_42; unfold maxLen; omega
                 have h2t_42_p91 : (t_38.length + t_41.length) * 8 ≤ 140737488355328 := by have h_ := hlt_42; omega
                 refine Go.Proofs.Ytpaakpbbahbhcaa.GoH.step_spread_own (w := wt_38_p90) rfl (.tmp 40) (.tmp 43) 32 rfl w.heap.size 3 i0_3 (.int .i64 0) 1 8 Try.underlying32 hi_3 hz0_3 hz1_3 hz2_3 rfl (by decide) (some ⟨qt_38_p90, 0, none⟩) ct_38_p90 t_38.length _ rfl Pt_38_p90.out At_41 t_41.length ct_41 (Go.Proofs.Ytpaakpbbahbhcaa.HelpInt.iv t_41) rfl Qt_41.out Ct_42_p91.out (fun u hu => by unfold Go.Proofs.Ytpaakpbbahbhcaa.HelpInt.iv at hu; obtain ⟨y_, _, rfl⟩ := List.mem_map.1 hu; rfl) h1t_42_p91 h2t_42_p91 hst_42_p91 ?_
                 intro vt_42_p91 wt_42_p91 ot_42_p91 gt_42_p91 yt_42_p91
                 obtain ⟨At_42_p91, ct_42_p91, rfl, pt_42_p91⟩ := own_pushS (f := Go.Proofs.Ytpaakpbbahbhcaa.HelpInt.iv) hht_42.out (by simp [Go.Proofs.Ytpaakpbbahbhcaa.HelpInt.iv]) rfl ot_42_p91
                 have Pt_42_p91 := Lib.hid pt_42_p91
                 have Yt_42_p91 := Lib.hid yt_42_p91
                 have Gt_42_p91 := Lib.hid gt_42_p91
                 have HBwt_42_p91 := Lib.hid (HBwt_38_p90.out.grown Gt_42_p91.out hst_42_p91 (fun q hq => (Pt_38_p90.out.lt q hq).1)))
              | (have hst_35_p94 := HBw_t_31_p93.out.size
                 have Ct_35_p94 := Lib.hid ((Cells.below Mt_34.out HBw_t_31_p93.out))
                 have h1t_35_p94 : 0 + t_34.length ≤ maxLen := by have h_ := hlt_35; simp only [List.length_nil] at h_; unfold maxLen; omega
                 have h2t_35_p94 : (0 + t_34.length) * 8 ≤ 140737488355328 := by have h_ := hlt_35; simp only [List.length_nil] at h_; omega
                 refine Go.Proofs.Ytpaakpbbahbhcaa.GoH.step_spread_own (w := w_t_31_p93) rfl (.tmp 33) (.tmp 36) 32 rfl w.heap.size 3 i0_3 (.int .i64 0) 1 8 Try.underlying32 hi_3 hz0_3 hz1_3 hz2_3 rfl (by decide) (some ⟨w_t_37_p92.heap.size, 0, none⟩) 0 0 _ rfl Ot_31_p93.out A0 t_34.length c0 (Go.Proofs.Ytpaakpbbahbhcaa.HelpInt.iv t_34) rfl Qt_34.out Ct_35_p94.out (fun u hu => by unfold Go.Proofs.Ytpaakpbbahbhcaa.HelpInt.iv at hu; obtain ⟨y_, _, rfl⟩ := List.mem_map.1 hu; rfl) h1t_35_p94 h2t_35_p94 hst_35_p94 ?_
                 intro vt_35_p94 wt_35_p94 ot_35_p94 gt_35_p94 yt_35_p94
                 obtain ⟨At_35_p94, ct_35_p94, rfl, pt_35_p94⟩ := own_pushS (f := Go.Proofs.Ytpaakpbbahbhcaa.HelpInt.iv) hht_35.out (by simp [Go.Proofs.Ytpaakpbbahbhcaa.HelpInt.iv]) rfl ot_35_p94
                 have Pt_35_p94 := Lib.hid pt_35_p94
                 have Yt_35_p94 := Lib.hid yt_35_p94
                 have Gt_35_p94 := Lib.hid gt_35_p94
                 have HBwt_35_p94 := Lib.hid (HBw_t_31_p93.out.grown Gt_35_p94.out hst_35_p94 (fun q hq => (Ot_31_p93.out.lt q hq).1))
                 have Dt_35_t_37_p94 : Hid (Apart At_35_p94 _) := Lib.hid (apart_app Dt_31_t_37_p93.out (fun a_ ha_ => (own_lt Ot_37_p92_p93.out a_ ha_).2) Yt_35_p94.out)
                 have Ot_37_p92_p93_p94 := Lib.hid (own_other Ot_37_p92_p93.out Gt_35_p94.out Dt_31_t_37_p93.out))
              | (have hst_38_p95 := HBwt_35_p94.out.size
                 have h1t_38_p95 : t_35.length + 1 ≤ maxLen := by unfold maxLen; omega
                 have h2t_38_p95 : (t_35.length + 1) * 8 ≤ 140737488355328 := by omega
                 have h3t_38_p95 := Ot_37_p92_p93_p94.out.cells rfl
                 refine Go.Proofs.Ytpaakpbbahbhcaa.GoH.step_append_own (w := wt_35_p94) rfl (.tmp 37) (.tmp 39) 32 rfl w.heap.size 3 i0_3 (.int .i64 0) 1 8 Try.underlying32 hi_3 hz0_3 hz1_3 hz2_3 rfl (by decide) At_35_p94 ct_35_p94 t_35.length _ rfl Pt_35_p94.out ⟨wr0.heap.size, 0, none⟩ 1 [.int .i64 n_1] rfl rfl h3t_38_p95 (one_cells rfl) h1t_38_p95 h2t_38_p95 hst_38_p95 ?_
                 intro vt_38_p95 wt_38_p95 ot_38_p95 gt_38_p95 yt_38_p95
                 obtain ⟨qt_38_p95, ct_38_p95, rfl, pt_38_p95⟩ := own_push hht_38.out (Go.Proofs.Ytpaakpbbahbhcaa.HelpInt.iv_snoc _ _) rfl ot_38_p95
                 have Pt_38_p95 := Lib.hid pt_38_p95
                 have Yt_38_p95 := Lib.hid yt_38_p95
                 have Gt_38_p95 := Lib.hid gt_38_p95
                 have HBwt_38_p95 := Lib.hid (HBwt_35_p94.out.grown Gt_38_p95.out hst_38_p95 (fun q hq => (Pt_35_p94.out.lt q hq).1))
                 have Dt_38_t_37_p95 : Hid (Apart (some ⟨qt_38_p95, 0, none⟩) _) := Lib.hid (apart_app Dt_35_t_37_p94.out (fun a_ ha_ => (own_lt Ot_37_p92_p93_p94.out a_ ha_).2) Yt_38_p95.out)
                 have Ot_37_p92_p93_p94_p95 := Lib.hid (own_other Ot_37_p92_p93_p94.out Gt_38_p95.out Dt_35_t_37_p94.out))
              | (have hst_42_p96 := HBwt_38_p95.out.size
                 have Ct_42_p96 := Lib.hid ((Cells.below Mt_41.out HBwt_38_p95.out))
                 have h1t_42_p96 : t_38.length + t_41.length ≤ maxLen := by have h_ := hlt_42; unfold maxLen; omega
                 have h2t_42_p96 : (t_38.length + t_41.length) * 8 ≤ 140737488355328 := by have h_ := hlt_42; omega
                 refine Go.Proofs.Ytpaakpbbahbhcaa.GoH.step_spread_own (w := wt_38_p95) rfl (.tmp 40) (.tmp 43) 32 rfl w.heap.size 3 i0_3 (.int .i64 0) 1 8 Try.underlying32 hi_3 hz0_3 hz1_3 hz2_3 rfl (by decide) (some ⟨qt_38_p95, 0, none⟩) ct_38_p95 t_38.length _ rfl Pt_38_p95.out At_41 t_41.length ct_41 (Go.Proofs.Ytpaakpbbahbhcaa.HelpInt.iv t_41) rfl Qt_41.out Ct_42_p96.out (fun u hu => by unfold Go.Proofs.Ytpaakpbbahbhcaa.HelpInt.iv at hu; obtain ⟨y_, _, rfl⟩ := List.mem_map.1 hu; rfl) h1t_42_p96 h2t_42_p96 hst_42_p96 ?_
                 intro vt_42_p96 wt_42_p96 ot_42_p96 gt_42_p96 yt_42_p96
                 obtain ⟨At_42_p96, ct_42_p96, rfl, pt_42_p96⟩ := own_pushS (f := Go.Proofs.Ytpaakpbbahbhcaa.HelpInt.iv) hht_42.out (by simp [Go.Proofs.Ytpaakpbbahbhcaa.HelpInt.iv]) rfl ot_42_p96
                 have Pt_42_p96 := Lib.hid pt_42_p96
                 have Yt_42_p96 := Lib.hid yt_42_p96
                 have Gt_42_p96 := Lib.hid gt_42_p96
                 have HBwt_42_p96 := Lib.hid (HBwt_38_p95.out.grown Gt_42_p96.out hst_42_p96 (fun q hq => (Pt_38_p95.out.lt q hq).1))))
        · skip
          obtain rfl := ret_hid H
          go_wp2_with fail
          go_ret
          exact ⟨At_42_p87, ct_42_p87, rfl, (Lib.hid (.inr Pt_42_p87.out)), HBwt_42_p87.out⟩
        · skip
          obtain rfl := ret_hid H
          go_wp2_with fail
          go_ret
          exact ⟨At_42_p91, ct_42_p91, rfl, (Lib.hid (.inr Pt_42_p91.out)), HBwt_42_p91.out⟩
        · skip
          obtain rfl := ret_hid H
          go_wp2_with fail
          go_ret
          exact ⟨At_42_p96, ct_42_p96, rfl, (Lib.hid (.inr Pt_42_p96.out)), HBwt_42_p96.out⟩
      | true =>
        replace H := ite_t H
        replace H := idx_hid H
        obtain ⟨nt_9, yt_9, et_9, lt_9, gt_9, H⟩ := H
        subst et_9
        have nc_97 : nt_9 < l.length := by have := of_decide_eq_true ht_5; omega
        obtain ⟨ab_t_9, ao_t_9, zt_9, At_9, z_t_9, ct_9_0⟩ := Go.Proofs.Ytpaakpbbahbhcaa.HelpInt.Ints.at_ M0.out lt_9
        obtain rfl := Option.some.inj (gt_9.out.symm.trans z_t_9)
        subst At_9
        have ltt_9 := cell_lt ct_9_0
        replace ct_9_0 := cell_below HBwr0.out ct_9_0
        clear z_t_9
        have b0t_9 : (0 : Int) ≤ (nt_9 : Int) := by omega
        have b1t_9 : (nt_9 : Int) < ((l.length : Nat) : Int) := by omega
        have b2t_9 : ((nt_9 : Int)).toNat = nt_9 := by omega
        replace H := let_hid H
        obtain ⟨t_12, ht_12, H⟩ := H
        replace H := app_hid H
        cases t_12 with
        | false =>
          replace H := ite_f H
          replace H := app_hid H
          unfold e0 at H
          replace H := let_hid H
          obtain ⟨_, rfl, H⟩ := H
          replace H := let_hid H
          obtain ⟨t_20, ht_20, H⟩ := H
          obtain rfl := ht_5.symm.trans ht_20
          replace H := join_hid H
          replace H := ite_t H
          replace H := idx_hid H
          obtain ⟨nt_24, yt_24, et_24, lt_24, gt_24, H⟩ := H
          obtain rfl : nt_9 = nt_24 := by omega
          clear et_24
          obtain rfl := Option.some.inj (gt_9.out.symm.trans gt_24.out)
          clear gt_24 lt_24
          replace H := let_hid H
          obtain ⟨t_27, ht_27, H⟩ := H
          replace H := app_hid H
          cases t_27 with
          | false =>
            replace H := ite_f H
            go_wp2_with fail
            have bd6 : Below wr0.heap.size wr0 wr0.drew := (Below.refl _ _).drew
            have HBwr0.drew := Lib.hid (Below.step HBwr0.out bd6)
            replace ct_9_0 := cell_below bd6 ct_9_0
            clear bd6
            replace H := guard_hid H
            obtain ⟨hl_t_34, H⟩ := H
            replace H := let_hid H
            obtain ⟨t_34, ht_34, H⟩ := H
            have dt_34 : ((Go.Proofs.Ytpaakpbbahbhcaa.HelpInt.iv l)).take (Int.toNat (nt_9 : Int) * 1) = (Go.Proofs.Ytpaakpbbahbhcaa.HelpInt.iv t_34) := by
              rw [← ht_34]
              simp [Go.Proofs.Ytpaakpbbahbhcaa.HelpInt.iv, List.map_take]
            have nt_34 : Int.toNat (nt_9 : Int) = t_34.length := by rw [← ht_34, List.length_take]; omega
            obtain ⟨rt_34, Mt_34, Qt_34⟩ := slice_headB (P := Try.prog) (t := 32) (e := 3) (k := .i64) (by kernel_rfl) (by kernel_rfl) hi_3 hz1_3 M0.out Q0.out hl_t_34 nt_34 dt_34
            have Nt_34 : Hid (t_34.length ≤ 9223372036854775807) := Lib.hid (by have := N0.out; omega)
            replace Mt_34 := Lib.hid Mt_34
            replace Qt_34 := Lib.hid Qt_34
            clear dt_34 nt_34 hl_t_34
            have hht_34 := Lib.hid ht_34
            clear ht_34
            replace H := guard_hid H
            obtain ⟨hlt_35, H⟩ := H
            replace H := let_hid H
            obtain ⟨t_35, ht_35, H⟩ := H
            have hht_35 := Lib.hid ht_35
            clear ht_35
            replace H := guard_hid H
            obtain ⟨hlt_38, H⟩ := H
            replace H := let_hid H
            obtain ⟨t_38, ht_38, H⟩ := H
            have hht_38 := Lib.hid ht_38
            clear ht_38
            replace H := guard_hid H
            obtain ⟨hl_t_41, H⟩ := H
            replace H := let_hid H
            obtain ⟨t_41, ht_41, H⟩ := H
            have dt_41 : ((Go.Proofs.Ytpaakpbbahbhcaa.HelpInt.iv l)).drop (Int.toNat (nt_9 : Int) * 1) = (Go.Proofs.Ytpaakpbbahbhcaa.HelpInt.iv t_41) := by
              rw [← ht_41]
              simp [Go.Proofs.Ytpaakpbbahbhcaa.HelpInt.iv, List.map_drop]
            have nt_41 : l.length - Int.toNat (nt_9 : Int) = t_41.length := by rw [← ht_41, List.length_drop]
            obtain ⟨At_41, ct_41, rt_41, Mt_41, Qt_41⟩ := slice_tail (P := Try.prog) (t := 32) (e := 3) (k := .i64) (by kernel_rfl) (by kernel_rfl) hi_3 hz1_3 M0.out Q0.out hl_t_41 nt_41 dt_41
            have Nt_41 : Hid (t_41.length ≤ 9223372036854775807) := Lib.hid (by have := N0.out; omega)
            replace Mt_41 := Lib.hid Mt_41
            replace Qt_41 := Lib.hid Qt_41
            clear dt_41 nt_41 hl_t_41
            have hht_41 := Lib.hid ht_41
            clear ht_41
            have Not_41 := Nt_41.out
            replace H := guard_hid H
            obtain ⟨hlt_42, H⟩ := H
            replace H := let_hid H
            obtain ⟨t_42, ht_42, H⟩ := H
            have hht_42 := Lib.hid ht_42
            clear ht_42
            obtain ⟨w_t_31_p101, hw_t_31_p101⟩ : ∃ x, wr0.drew.alloc (.cells #[] 3) = x := ⟨_, rfl⟩
            have bw_t_31_p101 : Below wr0.drew.heap.size wr0.drew w_t_31_p101 := by rw [← hw_t_31_p101]; exact (Below.refl _ _).alloc (Nat.le_refl _) _
            have Ot_31_p101 : Hid (w_t_31_p101.ownsRow w.heap.size 3 1 (.slice (some ⟨wr0.heap.size, 0, none⟩) 0 0) 0 []) := Lib.hid (by rw [← hw_t_31_p101]; exact own_empty HBwr0.drew.out.size)
            have HBw_t_31_p101 := Lib.hid (Below.step HBwr0.drew.out bw_t_31_p101)
            have ct_9_0__100_p101 := cell_below bw_t_31_p101 ct_9_0
            obtain ⟨w_t_37_p108, hw_t_37_p108⟩ : ∃ x, w_t_31_p101.alloc (.cells #[.int .i64 n_1] 3) = x := ⟨_, rfl⟩
            have bw_t_37_p108 : Below w_t_31_p101.heap.size w_t_31_p101 w_t_37_p108 := by rw [← hw_t_37_p108]; exact (Below.refl _ _).alloc (Nat.le_refl _) _
            have Ot_37_p108 : Hid (w_t_37_p108.ownsRow w.heap.size 3 1 (.slice (some ⟨w_t_31_p101.heap.size, 0, none⟩) 1 1) 1 [.int .i64 n_1]) := Lib.hid (by rw [← hw_t_37_p108]; exact own_laid (n := 1) HBw_t_31_p101.out.size (rfl : ([.int .i64 n_1] : List Value) = [.int .i64 n_1]) rfl (by unfold maxLen; omega))
            have Dt_37_t_31_p108 := Lib.hid (apart_fresh Ot_31_p101.out)
            have HBw_t_37_p108 := Lib.hid (Below.step HBw_t_31_p101.out bw_t_37_p108)
            have ct_9_0__107_p108 := cell_below bw_t_37_p108 ct_9_0__100_p101
            have Ot_31_p101_p108 := Lib.hid (own_below Ot_31_p101.out bw_t_37_p108)
            obtain ⟨w_t_37_p113, hw_t_37_p113⟩ : ∃ x, wr0.drew.alloc (.cells #[.int .i64 n_1] 3) = x := ⟨_, rfl⟩
            have bw_t_37_p113 : Below wr0.drew.heap.size wr0.drew w_t_37_p113 := by rw [← hw_t_37_p113]; exact (Below.refl _ _).alloc (Nat.le_refl _) _
            have Ot_37_p113 : Hid (w_t_37_p113.ownsRow w.heap.size 3 1 (.slice (some ⟨wr0.heap.size, 0, none⟩) 1 1) 1 [.int .i64 n_1]) := Lib.hid (by rw [← hw_t_37_p113]; exact own_laid (n := 1) HBwr0.drew.out.size (rfl : ([.int .i64 n_1] : List Value) = [.int .i64 n_1]) rfl (by unfold maxLen; omega))
            have HBw_t_37_p113 := Lib.hid (Below.step HBwr0.drew.out bw_t_37_p113)
            have ct_9_0__112_p113 := cell_below bw_t_37_p113 ct_9_0
            obtain ⟨w_t_31_p115, hw_t_31_p115⟩ : ∃ x, w_t_37_p113.alloc (.cells #[] 3) = x := ⟨_, rfl⟩
            have bw_t_31_p115 : Below w_t_37_p113.heap.size w_t_37_p113 w_t_31_p115 := by rw [← hw_t_31_p115]; exact (Below.refl _ _).alloc (Nat.le_refl _) _
            have Ot_31_p115 : Hid (w_t_31_p115.ownsRow w.heap.size 3 1 (.slice (some ⟨w_t_37_p113.heap.size, 0, none⟩) 0 0) 0 []) := Lib.hid (by rw [← hw_t_31_p115]; exact own_empty HBw_t_37_p113.out.size)
            have Dt_31_t_37_p115 := Lib.hid (apart_fresh Ot_37_p113.out)
            have HBw_t_31_p115 := Lib.hid (Below.step HBw_t_37_p113.out bw_t_31_p115)
            have ct_9_0__114_p115 := cell_below bw_t_31_p115 ct_9_0__112_p113
            have Ot_37_p113_p115 := Lib.hid (own_below Ot_37_p113.out bw_t_31_p115)
            go_region_held3 (fun w' => w'.cell? ⟨ab_t_9, ao_t_9 + nt_9, none⟩ = some (.int .i64 yt_9)) (first | exact ct_9_0 | exact ct_9_0__100_p101 | exact ct_9_0__100_p101_p102 | exact ct_9_0__103_p104 | exact ct_9_0__103_p104_p105 | exact ct_9_0__103_p104_p105_p106 | exact ct_9_0__107_p108 | exact ct_9_0__107_p108_p109 | exact ct_9_0__107_p108_p109_p110 | exact ct_9_0__107_p108_p109_p110_p111 | exact ct_9_0__112_p113 | exact ct_9_0__114_p115 | exact ct_9_0__114_p115_p116 | exact ct_9_0__114_p115_p116_p117 | exact ct_9_0__114_p115_p116_p117_p118)
                (first
                  | (have hst_35_p102 := HBw_t_31_p101.out.size
                     have Ct_35_p102 := Lib.hid ((Cells.below Mt_34.out HBw_t_31_p101.out))
                     have h1t_35_p102 : 0 + t_34.length ≤ maxLen := by have h_ := hlt_35; simp only [List.length_nil] at h_; unfold maxLen; omega
                     have h2t_35_p102 : (0 + t_34.length) * 8 ≤ 140737488355328 := by have h_ := hlt_35; simp only [List.length_nil] at h_; omega
                     refine Go.Proofs.Ytpaakpbbahbhcaa.GoH.step_spread_own (w := w_t_31_p101) rfl (.tmp 33) (.tmp 36) 32 rfl w.heap.size 3 i0_3 (.int .i64 0) 1 8 Try.underlying32 hi_3 hz0_3 hz1_3 hz2_3 rfl (by decide) (some ⟨wr0.heap.size, 0, none⟩) 0 0 _ rfl Ot_31_p101.out (some ⟨ab_t_9, ao_t_9, none⟩) t_34.length c0 (Go.Proofs.Ytpaakpbbahbhcaa.HelpInt.iv t_34) rfl Qt_34.out Ct_35_p102.out (fun u hu => by unfold Go.Proofs.Ytpaakpbbahbhcaa.HelpInt.iv at hu; obtain ⟨y_, _, rfl⟩ := List.mem_map.1 hu; rfl) h1t_35_p102 h2t_35_p102 hst_35_p102 ?_
                     intro vt_35_p102 wt_35_p102 ot_35_p102 gt_35_p102 yt_35_p102
                     obtain ⟨At_35_p102, ct_35_p102, rfl, pt_35_p102⟩ := own_pushS (f := Go.Proofs.Ytpaakpbbahbhcaa.HelpInt.iv) hht_35.out (by simp [Go.Proofs.Ytpaakpbbahbhcaa.HelpInt.iv]) rfl ot_35_p102
                     have Pt_35_p102 := Lib.hid pt_35_p102
                     have Yt_35_p102 := Lib.hid yt_35_p102
                     have Gt_35_p102 := Lib.hid gt_35_p102
                     have HBwt_35_p102 := Lib.hid (HBw_t_31_p101.out.grown Gt_35_p102.out hst_35_p102 (fun q hq => (Ot_31_p101.out.lt q hq).1))
                     have ct_9_0__100_p101_p102 := cell_other ct_9_0__100_p101 Gt_35_p102.out (apart_old Ot_31_p101.out ltt_9)
                     obtain ⟨w_t_37_p104, hw_t_37_p104⟩ : ∃ x, wt_35_p102.alloc (.cells #[.int .i64 n_1] 3) = x := ⟨_, rfl⟩
                     have bw_t_37_p104 : Below wt_35_p102.heap.size wt_35_p102 w_t_37_p104 := by rw [← hw_t_37_p104]; exact (Below.refl _ _).alloc (Nat.le_refl _) _
                     have Ot_37_p104 : Hid (w_t_37_p104.ownsRow w.heap.size 3 1 (.slice (some ⟨wt_35_p102.heap.size, 0, none⟩) 1 1) 1 [.int .i64 n_1]) := Lib.hid (by rw [← hw_t_37_p104]; exact own_laid (n := 1) HBwt_35_p102.out.size (rfl : ([.int .i64 n_1] : List Value) = [.int .i64 n_1]) rfl (by unfold maxLen; omega))
                     have Dt_37_t_35_p104 := Lib.hid (apart_fresh Pt_35_p102.out)
                     have HBw_t_37_p104 := Lib.hid (Below.step HBwt_35_p102.out bw_t_37_p104)
                     have ct_9_0__103_p104 := cell_below bw_t_37_p104 ct_9_0__100_p101_p102
                     have Pt_35_p102_p104 := Lib.hid (own_below Pt_35_p102.out bw_t_37_p104))
                  | (have hst_38_p105 := HBw_t_37_p104.out.size
                     have h1t_38_p105 : t_35.length + 1 ≤ maxLen := by unfold maxLen; omega
                     have h2t_38_p105 : (t_35.length + 1) * 8 ≤ 140737488355328 := by omega
                     have h3t_38_p105 := Ot_37_p104.out.cells rfl
                     refine Go.Proofs.Ytpaakpbbahbhcaa.GoH.step_append_own (w := w_t_37_p104) rfl (.tmp 37) (.tmp 39) 32 rfl w.heap.size 3 i0_3 (.int .i64 0) 1 8 Try.underlying32 hi_3 hz0_3 hz1_3 hz2_3 rfl (by decide) At_35_p102 ct_35_p102 t_35.length _ rfl Pt_35_p102_p104.out ⟨wt_35_p102.heap.size, 0, none⟩ 1 [.int .i64 n_1] rfl rfl h3t_38_p105 (one_cells rfl) h1t_38_p105 h2t_38_p105 hst_38_p105 ?_
                     intro vt_38_p105 wt_38_p105 ot_38_p105 gt_38_p105 yt_38_p105
                     obtain ⟨qt_38_p105, ct_38_p105, rfl, pt_38_p105⟩ := own_push hht_38.out (Go.Proofs.Ytpaakpbbahbhcaa.HelpInt.iv_snoc _ _) rfl ot_38_p105
                     have Pt_38_p105 := Lib.hid pt_38_p105
                     have Yt_38_p105 := Lib.hid yt_38_p105
                     have Gt_38_p105 := Lib.hid gt_38_p105
                     have HBwt_38_p105 := Lib.hid (HBw_t_37_p104.out.grown Gt_38_p105.out hst_38_p105 (fun q hq => (Pt_35_p102_p104.out.lt q hq).1))
                     have Dt_38_t_37_p105 : Hid (Apart (some ⟨qt_38_p105, 0, none⟩) _) := Lib.hid (apart_app (Apart.symm Dt_37_t_35_p104.out) (fun a_ ha_ => (own_lt Ot_37_p104.out a_ ha_).2) Yt_38_p105.out)
                     have ct_9_0__103_p104_p105 := cell_other ct_9_0__103_p104 Gt_38_p105.out (apart_old Pt_35_p102_p104.out ltt_9)
                     have Ot_37_p104_p105 := Lib.hid (own_other Ot_37_p104.out Gt_38_p105.out (Apart.symm Dt_37_t_35_p104.out)))
                  | (have hst_42_p106 := HBwt_38_p105.out.size
                     have Ct_42_p106 := Lib.hid ((Cells.below Mt_41.out HBwt_38_p105.out))
                     have h1t_42_p106 : t_38.length + t_41.length ≤ maxLen := by have h_ := hlt_42; unfold maxLen; omega
                     have h2t_42_p106 : (t_38.length + t_41.length) * 8 ≤ 140737488355328 := by have h_ := hlt_42; omega
                     refine Go.Proofs.Ytpaakpbbahbhcaa.GoH.step_spread_own (w := wt_38_p105) rfl (.tmp 40) (.tmp 43) 32 rfl w.heap.size 3 i0_3 (.int .i64 0) 1 8 Try.underlying32 hi_3 hz0_3 hz1_3 hz2_3 rfl (by decide) (some ⟨qt_38_p105, 0, none⟩) ct_38_p105 t_38.length _ rfl Pt_38_p105.out At_41 t_41.length ct_41 (Go.Proofs.Ytpaakpbbahbhcaa.HelpInt.iv t_41) rfl Qt_41.out Ct_42_p106.out (fun u hu => by unfold Go.Proofs.Ytpaakpbbahbhcaa.HelpInt.iv at hu; obtain ⟨y_, _, rfl⟩ := List.mem_map.1 hu; rfl) h1t_42_p106 h2t_42_p106 hst_42_p106 ?_
                     intro vt_42_p106 wt_42_p106 ot_42_p106 gt_42_p106 yt_42_p106
                     obtain ⟨At_42_p106, ct_42_p106, rfl, pt_42_p106⟩ := own_pushS (f := Go.Proofs.Ytpaakpbbahbhcaa.HelpInt.iv) hht_42.out (by simp [Go.Proofs.Ytpaakpbbahbhcaa.HelpInt.iv]) rfl ot_42_p106
                     have Pt_42_p106 := Lib.hid pt_42_p106
                     have Yt_42_p106 := Lib.hid yt_42_p106
                     have Gt_42_p106 := Lib.hid gt_42_p106
                     have HBwt_42_p106 := Lib.hid (HBwt_38_p105.out.grown Gt_42_p106.out hst_42_p106 (fun q hq => (Pt_38_p105.out.lt q hq).1))
                     have ct_9_0__103_p104_p105_p106 := cell_other ct_9_0__103_p104_p105 Gt_42_p106.out (apart_old Pt_38_p105.out ltt_9))
                  | (have hst_35_p109 := HBw_t_37_p108.out.size
                     have Ct_35_p109 := Lib.hid ((Cells.below Mt_34.out HBw_t_37_p108.out))
                     have h1t_35_p109 : 0 + t_34.length ≤ maxLen := by have h_ := hlt_35; simp only [List.length_nil] at h_; unfold maxLen; omega
                     have h2t_35_p109 : (0 + t_34.length) * 8 ≤ 140737488355328 := by have h_ := hlt_35; simp only [List.length_nil] at h_; omega
                     refine Go.Proofs.Ytpaakpbbahbhcaa.GoH.step_spread_own (w := w_t_37_p108) rfl (.tmp 33) (.tmp 36) 32 rfl w.heap.size 3 i0_3 (.int .i64 0) 1 8 Try.underlying32 hi_3 hz0_3 hz1_3 hz2_3 rfl (by decide) (some ⟨wr0.heap.size, 0, none⟩) 0 0 _ rfl Ot_31_p101_p108.out (some ⟨ab_t_9, ao_t_9, none⟩) t_34.length c0 (Go.Proofs.Ytpaakpbbahbhcaa.HelpInt.iv t_34) rfl Qt_34.out Ct_35_p109.out (fun u hu => by unfold Go.Proofs.Ytpaakpbbahbhcaa.HelpInt.iv at hu; obtain ⟨y_, _, rfl⟩ := List.mem_map.1 hu; rfl) h1t_35_p109 h2t_35_p109 hst_35_p109 ?_
                     intro vt_35_p109 wt_35_p109 ot_35_p109 gt_35_p109 yt_35_p109
                     obtain ⟨At_35_p109, ct_35_p109, rfl, pt_35_p109⟩ := own_pushS (f := Go.Proofs.Ytpaakpbbahbhcaa.HelpInt.iv) hht_35.out (by simp [Go.Proofs.Ytpaakpbbahbhcaa.HelpInt.iv]) rfl ot_35_p109
                     have Pt_35_p109 := Lib.hid pt_35_p109
                     have Yt_35_p109 := Lib.hid yt_35_p109
                     have Gt_35_p109 := Lib.hid gt_35_p109
                     have HBwt_35_p109 := Lib.hid (HBw_t_37_p108.out.grown Gt_35_p109.out hst_35_p109 (fun q hq => (Ot_31_p101_p108.out.lt q hq).1))
                     have Dt_35_t_37_p109 : Hid (Apart At_35_p109 _) := Lib.hid (apart_app (Apart.symm Dt_37_t_31_p108.out) (fun a_ ha_ => (own_lt Ot_37_p108.out a_ ha_).2) Yt_35_p109.out)
                     have ct_9_0__107_p108_p109 := cell_other ct_9_0__107_p108 Gt_35_p109.out (apart_old Ot_31_p101_p108.out ltt_9)
                     have Ot_37_p108_p109 := Lib.hid (own_other Ot_37_p108.out Gt_35_p109.out (Apart.symm Dt_37_t_31_p108.out)))
                  | (have hst_38_p110 := HBwt_35_p109.out.size
                     have h1t_38_p110 : t_35.length + 1 ≤ maxLen := by unfold maxLen; omega
                     have h2t_38_p110 : (t_35.length + 1) * 8 ≤ 140737488355328 := by omega
                     have h3t_38_p110 := Ot_37_p108_p109.out.cells rfl
                     refine Go.Proofs.Ytpaakpbbahbhcaa.GoH.step_append_own (w := wt_35_p109) rfl (.tmp 37) (.tmp 39) 32 rfl w.heap.size 3 i0_3 (.int .i64 0) 1 8 Try.underlying32 hi_3 hz0_3 hz1_3 hz2_3 rfl (by decide) At_35_p109 ct_35_p109 t_35.length _ rfl Pt_35_p109.out ⟨w_t_31_p101.heap.size, 0, none⟩ 1 [.int .i64 n_1] rfl rfl h3t_38_p110 (one_cells rfl) h1t_38_p110 h2t_38_p110 hst_38_p110 ?_
                     intro vt_38_p110 wt_38_p110 ot_38_p110 gt_38_p110 yt_38_p110
                     obtain ⟨qt_38_p110, ct_38_p110, rfl, pt_38_p110⟩ := own_push hht_38.out (Go.Proofs.Ytpaakpbbahbhcaa.HelpInt.iv_snoc _ _) rfl ot_38_p110
                     have Pt_38_p110 := Lib.hid pt_38_p110
                     have Yt_38_p110 := Lib.hid yt_38_p110
                     have Gt_38_p110 := Lib.hid gt_38_p110
                     have HBwt_38_p110 := Lib.hid (HBwt_35_p109.out.grown Gt_38_p110.out hst_38_p110 (fun q hq => (Pt_35_p109.out.lt q hq).1))
                     have Dt_38_t_37_p110 : Hid (Apart (some ⟨qt_38_p110, 0, none⟩) _) := Lib.hid (apart_app Dt_35_t_37_p109.out (fun a_ ha_ => (own_lt Ot_37_p108_p109.out a_ ha_).2) Yt_38_p110.out)
                     have ct_9_0__107_p108_p109_p110 := cell_other ct_9_0__107_p108_p109 Gt_38_p110.out (apart_old Pt_35_p109.out ltt_9)
                     have Ot_37_p108_p109_p110 := Lib.hid (own_other Ot_37_p108_p109.out Gt_38_p110.out Dt_35_t_37_p109.out))
                  | (have hst_42_p111 := HBwt_38_p110.out.size
                     have Ct_42_p111 := Lib.hid ((Cells.below Mt_41.out HBwt_38_p110.out))
                     have h1t_42_p111 : t_38.length + t_41.length ≤ maxLen := by have h_ := hlt_42; unfold maxLen; omega
                     have h2t_42_p111 : (t_38.length + t_41.length) * 8 ≤ 140737488355328 := by have h_ := hlt_42; omega
                     refine Go.Proofs.Ytpaakpbbahbhcaa.GoH.step_spread_own (w := wt_38_p110) rfl (.tmp 40) (.tmp 43) 32 rfl w.heap.size 3 i0_3 (.int .i64 0) 1 8 Try.underlying32 hi_3 hz0_3 hz1_3 hz2_3 rfl (by decide) (some ⟨qt_38_p110, 0, none⟩) ct_38_p110 t_38.length _ rfl Pt_38_p110.out At_41 t_41.length ct_41 (Go.Proofs.Ytpaakpbbahbhcaa.HelpInt.iv t_41) rfl Qt_41.out Ct_42_p111.out (fun u hu => by unfold Go.Proofs.Ytpaakpbbahbhcaa.HelpInt.iv at hu; obtain ⟨y_, _, rfl⟩ := List.mem_map.1 hu; rfl) h1t_42_p111 h2t_42_p111 hst_42_p111 ?_
                     intro vt_42_p111 wt_42_p111 ot_42_p111 gt_42_p111 yt_42_p111
                     obtain ⟨At_42_p111, ct_42_p111, rfl, pt_42_p111⟩ := own_pushS (f := Go.Proofs.Ytpaakpbbahbhcaa.HelpInt.iv) hht_42.out (by simp [Go.Proofs.Ytpaakpbbahbhcaa.HelpInt.iv]) rfl ot_42_p111
                     have Pt_42_p111 := Lib.hid pt_42_p111
                     have Yt_42_p111 := Lib.hid yt_42_p111
                     have Gt_42_p111 := Lib.hid gt_42_p111
                     have HBwt_42_p111 := Lib.hid (HBwt_38_p110.out.grown Gt_42_p111.out hst_42_p111 (fun q hq => (Pt_38_p110.out.lt q hq).1))
                     have ct_9_0__107_p108_p109_p110_p111 := cell_other ct_9_0__107_p108_p109_p110 Gt_42_p111.out (apart_old Pt_38_p110.out ltt_9))
                  | (have hst_35_p116 := HBw_t_31_p115.out.size
                     have Ct_35_p116 := Lib.hid ((Cells.below Mt_34.out HBw_t_31_p115.out))
                     have h1t_35_p116 : 0 + t_34.length ≤ maxLen := by have h_ := hlt_35; simp only [List.length_nil] at h_; unfold maxLen; omega
                     have h2t_35_p116 : (0 + t_34.length) * 8 ≤ 140737488355328 := by have h_ := hlt_35; simp only [List.length_nil] at h_; omega
                     refine Go.Proofs.Ytpaakpbbahbhcaa.GoH.step_spread_own (w := w_t_31_p115) rfl (.tmp 33) (.tmp 36) 32 rfl w.heap.size 3 i0_3 (.int .i64 0) 1 8 Try.underlying32 hi_3 hz0_3 hz1_3 hz2_3 rfl (by decide) (some ⟨w_t_37_p113.heap.size, 0, none⟩) 0 0 _ rfl Ot_31_p115.out (some ⟨ab_t_9, ao_t_9, none⟩) t_34.length c0 (Go.Proofs.Ytpaakpbbahbhcaa.HelpInt.iv t_34) rfl Qt_34.out Ct_35_p116.out (fun u hu => by unfold Go.Proofs.Ytpaakpbbahbhcaa.HelpInt.iv at hu; obtain ⟨y_, _, rfl⟩ := List.mem_map.1 hu; rfl) h1t_35_p116 h2t_35_p116 hst_35_p116 ?_
                     intro vt_35_p116 wt_35_p116 ot_35_p116 gt_35_p116 yt_35_p116
                     obtain ⟨At_35_p116, ct_35_p116, rfl, pt_35_p116⟩ := own_pushS (f := Go.Proofs.Ytpaakpbbahbhcaa.HelpInt.iv) hht_35.out (by simp [Go.Proofs.Ytpaakpbbahbhcaa.HelpInt.iv]) rfl ot_35_p116
                     have Pt_35_p116 := Lib.hid pt_35_p116
                     have Yt_35_p116 := Lib.hid yt_35_p116
                     have Gt_35_p116 := Lib.hid gt_35_p116
                     have HBwt_35_p116 := Lib.hid (HBw_t_31_p115.out.grown Gt_35_p116.out hst_35_p116 (fun q hq => (Ot_31_p115.out.lt q hq).1))
                     have Dt_35_t_37_p116 : Hid (Apart At_35_p116 _) := Lib.hid (apart_app Dt_31_t_37_p115.out (fun a_ ha_ => (own_lt Ot_37_p113_p115.out a_ ha_).2) Yt_35_p116.out)
                     have ct_9_0__114_p115_p116 := cell_other ct_9_0__114_p115 Gt_35_p116.out (apart_old Ot_31_p115.out ltt_9)
                     have Ot_37_p113_p115_p116 := Lib.hid (own_other Ot_37_p113_p115.out Gt_35_p116.out Dt_31_t_37_p115.out))
                  | (have hst_38_p117 := HBwt_35_p116.out.size
                     have h1t_38_p117 : t_35.length + 1 ≤ maxLen := by unfold maxLen; omega
                     have h2t_38_p117 : (t_35.length + 1) * 8 ≤ 140737488355328 := by omega
                     have h3t_38_p117 := Ot_37_p113_p115_p116.out.cells rfl
                     refine Go.Proofs.Ytpaakpbbahbhcaa.GoH.step_append_own (w := wt_35_p116) rfl (.tmp 37) (.tmp 39) 32 rfl w.heap.size 3 i0_3 (.int .i64 0) 1 8 Try.underlying32 hi_3 hz0_3 hz1_3 hz2_3 rfl (by decide) At_35_p116 ct_35_p116 t_35.length _ rfl Pt_35_p116.out ⟨wr0.heap.size, 0, none⟩ 1 [.int .i64 n_1] rfl rfl h3t_38_p117 (one_cells rfl) h1t_38_p117 h2t_38_p117 hst_38_p117 ?_
                     intro vt_38_p117 wt_38_p117 ot_38_p117 gt_38_p117 yt_38_p117
                     obtain ⟨qt_38_p117, ct_38_p117, rfl, pt_38_p117⟩ := own_push hht_38.out (Go.Proofs.Ytpaakpbbahbhcaa.HelpInt.iv_snoc _ _) rfl ot_38_p117
                     have Pt_38_p117 := Lib.hid pt_38_p117
                     have Yt_38_p117 := Lib.hid yt_38_p117
                     have Gt_38_p117 := Lib.hid gt_38_p117
                     have HBwt_38_p117 := Lib.hid (HBwt_35_p116.out.grown Gt_38_p117.out hst_38_p117 (fun q hq => (Pt_35_p116.out.lt q hq).1))
                     have Dt_38_t_37_p117 : Hid (Apart (some ⟨qt_38_p117, 0, none⟩) _) := Lib.hid (apart_app Dt_35_t_37_p116.out (fun a_ ha_ => (own_lt Ot_37_p113_p115_p116.out a_ ha_).2) Yt_38_p117.out)
                     have ct_9_0__114_p115_p116_p117 := cell_other ct_9_0__114_p115_p116 Gt_38_p117.out (apart_old Pt_35_p116.out ltt_9)
                     have Ot_37_p113_p115_p116_p117 := Lib.hid (own_other Ot_37_p113_p115_p116.out Gt_38_p117.out Dt_35_t_37_p116.out))
                  | (have hst_42_p118 := HBwt_38_p117.out.size
                     have Ct_42_p118 := Lib.hid ((Cells.below Mt_41.out HBwt_38_p117.out))
                     have h1t_42_p118 : t_38.length + t_41.length ≤ maxLen := by have h_ := hlt_42; unfold maxLen; omega
                     have h2t_42_p118 : (t_38.length + t_41.length) * 8 ≤ 140737488355328 := by have h_ := hlt_42; omega
                     refine Go.Proofs.Ytpaakpbbahbhcaa.GoH.step_spread_own (w := wt_38_p117) rfl (.tmp 40) (.tmp 43) 32 rfl w.heap.size 3 i0_3 (.int .i64 0) 1 8 Try.underlying32 hi_3 hz0_3 hz1_3 hz2_3 rfl (by decide) (some ⟨qt_38_p117, 0, none⟩) ct_38_p117 t_38.length _ rfl Pt_38_p117.out At_41 t_41.length ct_41 (Go.Proofs.Ytpaakpbbahbhcaa.HelpInt.iv t_41) rfl Qt_41.out Ct_42_p118.out (fun u hu => by unfold Go.Proofs.Ytpaakpbbahbhcaa.HelpInt.iv at hu; obtain ⟨y_, _, rfl⟩ := List.mem_map.1 hu; rfl) h1t_42_p118 h2t_42_p118 hst_42_p118 ?_
                     intro vt_42_p118 wt_42_p118 ot_42_p118 gt_42_p118 yt_42_p118
                     obtain ⟨At_42_p118, ct_42_p118, rfl, pt_42_p118⟩ := own_pushS (f := Go.Proofs.Ytpaakpbbahbhcaa.HelpInt.iv) hht_42.out (by simp [Go.Proofs.Ytpaakpbbahbhcaa.HelpInt.iv]) rfl ot_42_p118
                     have Pt_42_p118 := Lib.hid pt_42_p118
                     have Yt_42_p118 := Lib.hid yt_42_p118
                     have Gt_42_p118 := Lib.hid gt_42_p118
                     have HBwt_42_p118 := Lib.hid (HBwt_38_p117.out.grown Gt_42_p118.out hst_42_p118 (fun q hq => (Pt_38_p117.out.lt q hq).1))
                     have ct_9_0__114_p115_p116_p117_p118 := cell_other ct_9_0__114_p115_p116_p117 Gt_42_p118.out (apart_old Pt_38_p117.out ltt_9)))
            · skip
              obtain rfl := ret_hid H
              go_wp2_with fail
              go_ret
              exact ⟨At_42_p106, ct_42_p106, rfl, (Lib.hid (.inr Pt_42_p106.out)), HBwt_42_p106.out⟩
            · skip
              obtain rfl := ret_hid H
              go_wp2_with fail
              go_ret
              exact ⟨At_42_p111, ct_42_p111, rfl, (Lib.hid (.inr Pt_42_p111.out)), HBwt_42_p111.out⟩
            · skip
              obtain rfl := ret_hid H
              go_wp2_with fail
              go_ret
              exact ⟨At_42_p118, ct_42_p118, rfl, (Lib.hid (.inr Pt_42_p118.out)), HBwt_42_p118.out⟩
          | true =>
            replace H := ite_t H
            obtain rfl := ret_hid H
            go_wp2_with fail
            go_ret
            exact ⟨_, _, rfl, (Lib.hid (.inl (by first | exact ⟨rfl, rfl, rfl⟩ | exact ⟨rfl, rfl⟩))), HBwr0.out⟩
        | true =>
          replace H := ite_t H
          replace H := let_hid H
          obtain ⟨t_15, ht_15, H⟩ := H
          replace H := app_hid H
          go_wp2_with fail
          go_roundg m0
          case measure => omega
          case rel => exact ⟨_, rfl, H, HBwr0⟩

theorem C (fuel : Nat) (l : (List Int)) (n_1 : Int) (A0 : Option Addr) (c0 : Nat)  (b0 : Nat) (w : World) (M0 : Hid (w.ownsRow b0 3 1 (.slice A0 l.length c0) l.length (Go.Proofs.Ytpaakpbbahbhcaa.HelpInt.iv l))) (N0 : Hid (l.length ≤ 9223372036854775807)) (Q0 : Hid (Room A0 l.length c0))  (LB : Hid (b0 ≤ w.heap.size)) {r : (List Int)} (H : Hid (P fuel l n_1 = some r)) :
    Calls Try.prog 73 #[.slice A0 l.length c0, .int .i64 n_1] w (fun e w' => ∃ A_r c_r, e = .returned (.slice A_r r.length c_r) ∧ w'.ownsRow b0 3 1 (.slice A_r r.length c_r) r.length (Go.Proofs.Ytpaakpbbahbhcaa.HelpInt.iv r) ∧ w.grownBy w' (Value.slice A0 l.length c0).ownBlock ∧ Go.Proofs.Ytpaakpbbahbhcaa.GoK.From w A0 A_r) := by
  refine (C1 fuel l n_1 A0 c0 w (Lib.hid (own_cells M0.out)) N0 Q0 H).mono ?_
  rintro e_ w_ ⟨A_, c_, rfl, h_, hb_⟩
  rcases h_.out with ⟨h1_, h2_, h3_⟩ | h_
  · refine ⟨_, _, rfl, ?_, grown_below (Aid.grown_refl _ _) hb_, ?_⟩
    · rw [h1_, h2_, h3_]; exact own_below M0.out hb_
    · rw [h1_]; exact Go.Proofs.Ytpaakpbbahbhcaa.GoK.from_self
  · exact ⟨_, _, rfl, Go.Proofs.Ytpaakpbbahbhcaa.GoK.own_baseM LB.out h_, grown_below (Aid.grown_refl _ _) hb_, Go.Proofs.Ytpaakpbbahbhcaa.GoK.from_own h_⟩
end Go.Proofs.Ytpaakpbbahbhcaa.GsL1Put

/- loop.example/g01062/spec.l13Cover as a plain function, and the contract of the program's: where the plain one has an answer, the program has it. Conditions: slices read as lists. -/
namespace Go.Proofs.Ytpaakpbbahbhcaa.GsL13Cover
set_option linter.unusedVariables false
set_option linter.unusedSimpArgs false
open Go.RowKit
open Go.Proofs.Ytpaakpbbahbhcaa.Rowed Go.Proofs.Ytpaakpbbahbhcaa.Turn Go.Proofs.Ytpaakpbbahbhcaa.Aid Go.Proofs.Ytpaakpbbahbhcaa.GoP Go.Proofs.Ytpaakpbbahbhcaa.GoM

def l2 (list : (List Go.Proofs.Ytpaakpbbahbhcaa.PSighting.Sighting)) (limit : Int) (fuel : Nat) (k1 : Nat) (s : (List Int) × Bool × Int) (nx2 bk2 : (List Int) × Bool × Int → Option ((List Int))) : Option ((List Int)) :=
  unp3 s fun out_7l2 more_8l2 i_10l2 =>
  letK (decide (i_10l2 < (out_7l2.length : Int))) fun (t_16 : Bool) =>
  joinK (fun (t_22 : Bool) =>
  iteK t_22
  (Option.bind (idx out_7l2 i_10l2) fun (yt_26 : Int) =>
  Option.bind (idx list yt_26) fun (yt_28 : Go.Proofs.Ytpaakpbbahbhcaa.PSighting.Sighting) =>
  unSighting yt_28 fun (t_28_id : Int) (t_28_year : Int) (t_28_town : ByteArray) (t_28_traits : (List Int)) =>
  Option.bind (idx list (k1 : Int)) fun (yt_32 : Go.Proofs.Ytpaakpbbahbhcaa.PSighting.Sighting) =>
  unSighting yt_32 fun (t_32_id : Int) (t_32_year : Int) (t_32_town : ByteArray) (t_32_traits : (List Int)) =>
  Option.bind (Go.Proofs.Ytpaakpbbahbhcaa.GsL13Evidence.P fuel t_28_id t_28_year t_28_town t_28_traits t_32_id t_32_year t_32_town t_32_traits) fun (t_34 : Int) =>
  letK (decide (limit ≤ t_34)) fun (t_36 : Bool) =>
  iteK t_36
  (Option.bind (Go.Proofs.Ytpaakpbbahbhcaa.GsL1Put.P fuel out_7l2 (k1 : Int)) fun (t_39 : (List Int)) =>
  letK (IntKind.i64.wrap (i_10l2 + 1)) fun (t_43 : Int) =>
  appK nx2 (t_39, true, t_43))
  (letK (IntKind.i64.wrap (i_10l2 + 1)) fun (t_43 : Int) =>
  appK nx2 (out_7l2, more_8l2, t_43)))
  (appK bk2 (out_7l2, more_8l2, i_10l2))) fun jt_22 => iteK t_16 (Option.bind (Go.Proofs.Ytpaakpbbahbhcaa.GsL1Has.P out_7l2 (k1 : Int)) fun (t_20 : Bool) =>
  letK (!t_20) fun (t_21 : Bool) =>
  appK jt_22 t_21) (appK jt_22 false)

def e2 (nx1 : ((List Int) × Bool) → Option ((List Int))) (s : (List Int) × Bool × Int) : Option ((List Int)) :=
  unp3 s fun out_7l2 more_8l2 i_10l2 =>
  appK nx1 (out_7l2, more_8l2)

def l1 (list : (List Go.Proofs.Ytpaakpbbahbhcaa.PSighting.Sighting)) (limit : Int) (fuel : Nat) (k1 : Nat) (s : (List Int) × Bool) (nx1 bk1 : (List Int) × Bool → Option ((List Int))) : Option ((List Int)) :=
  unp2 s fun out_7l1 more_8l1 =>
  loopK (l2 list limit fuel k1) fuel (out_7l1, more_8l1, 0) (e2 nx1)

def e1 (nx0 : ((List Int) × Bool) → Option ((List Int))) (s : (List Int) × Bool) : Option ((List Int)) :=
  unp2 s fun out_7l1 more_8l1 =>
  appK nx0 (out_7l1, more_8l1)

def l0 (list : (List Go.Proofs.Ytpaakpbbahbhcaa.PSighting.Sighting)) (limit : Int) (fuel : Nat) (s : (List Int) × Bool) (nx0 bk0 : (List Int) × Bool → Option ((List Int))) : Option ((List Int)) :=
  unp2 s fun out_7l0 more_8l0 =>
  iteK more_8l0
  (cntK (l1 list limit fuel) (list.length) 0 (out_7l0, false) (e1 nx0))
  (appK bk0 (out_7l0, more_8l0))

def e0  (s : (List Int) × Bool) : Option ((List Int)) :=
  unp2 s fun out_7l0 more_8l0 =>
  some out_7l0

def P (fuel : Nat) (list : (List Go.Proofs.Ytpaakpbbahbhcaa.PSighting.Sighting)) (limit : Int) (start : Int) : Option ((List Int)) :=
  letK ([start]) fun (t_2 : (List Int)) =>
  loopK (l0 list limit fuel) fuel (t_2, true) (e0 )

set_option maxRecDepth 100000 in
set_option maxHeartbeats 2000000 in
theorem C (fuel : Nat) (list : (List Go.Proofs.Ytpaakpbbahbhcaa.PSighting.Sighting)) (limit : Int) (start : Int) (A0 : Option Addr) (c0 : Nat)  (w : World) (M0 : Hid (Go.Proofs.Ytpaakpbbahbhcaa.GoV.ReadNest w Go.Proofs.Ytpaakpbbahbhcaa.GoVSighting.lay A0 list)) (N0 : Hid (list.length ≤ 9223372036854775807))  {r : (List Int)} (H : Hid (P fuel list limit start = some r)) :
    Calls Try.prog 58 #[.slice A0 list.length c0, .int .i64 limit, .int .i64 start] w (fun e w' => ∃ A_r c_r, e = .returned (.slice A_r r.length c_r) ∧ w'.ownsRow w.heap.size 3 1 (.slice A_r r.length c_r) r.length (Go.Proofs.Ytpaakpbbahbhcaa.HelpInt.iv r) ∧ Below w.heap.size w w') := by
  have HB := Lib.hid (Below.refl w.heap.size w)
  unfold P at H
  have N0o := N0.out
  go_enter Try.func58, Try.ntmps58
  replace H := let_hid H
  obtain ⟨t_2, ht_2, H⟩ := H
  obtain ⟨w_t_2, hw_t_2⟩ : ∃ x, w.alloc (.cells #[.int .i64 start] 3) = x := ⟨_, rfl⟩
  have bw_t_2 : Below w.heap.size w w_t_2 := by rw [← hw_t_2]; exact (Below.refl _ _).alloc (Nat.le_refl _) _
  have hs_t_2 := HB.out.size
  have nt_2 : t_2.length = 1 := by rw [← ht_2]; rfl
  have Ot_2 : Hid (w_t_2.ownsRow w.heap.size 3 1 (.slice (some ⟨w.heap.size, 0, none⟩) 1 1) 1 (Go.Proofs.Ytpaakpbbahbhcaa.HelpInt.iv t_2)) := by
    rw [← hw_t_2, ← ht_2]
    have e_ : ([.int .i64 start] : List Value) = (Go.Proofs.Ytpaakpbbahbhcaa.HelpInt.iv ([start] : List Int)) := rfl
    exact Lib.hid (own_laid (n := 1) hs_t_2 e_ rfl (by unfold maxLen; omega))
  clear hs_t_2
  have hht_2 := Lib.hid ht_2
  clear ht_2
  replace nt_2 := Lib.hid nt_2
  have HBw_t_2 := Lib.hid (Below.step HB.out bw_t_2)
  clear bw_t_2
  go_wp2_with fail
  have hc_ := nt_2.out
  have hv_ : (Value.slice (some ⟨w.heap.size, 0, none⟩) 1 1 : Value) = Value.slice (some ⟨w.heap.size, 0, none⟩) t_2.length 1 := by rw [hc_]
  try rw [hv_]
  replace Ot_2 := Lib.hid (own_len hc_ Ot_2.out)
  clear hc_ hv_
  go_wp2_with fail
  go_loopg [7, 8] (fuel) (fun m_ v7_ v8_ wr => ∃ (out_7l0 : (List Int)) (more_8l0 : Bool) (Aout_7l0 : Option Addr) (cout_7l0 : Nat), v7_ = .slice Aout_7l0 out_7l0.length cout_7l0 ∧ v8_ = .bool more_8l0 ∧ Hid (loopK (l0 list limit fuel) m_ (out_7l0, more_8l0) (e0 ) = some r) ∧ Hid (Below w.heap.size w wr) ∧ Hid (wr.ownsRow w.heap.size 3 1 (.slice Aout_7l0 out_7l0.length cout_7l0) out_7l0.length (Go.Proofs.Ytpaakpbbahbhcaa.HelpInt.iv out_7l0)))
  case atStart => exact ⟨_, _, _, _, rfl, rfl, H, HBw_t_2, Ot_2⟩
  case round =>
    obtain ⟨out_7l0, more_8l0, Aout_7l0, cout_7l0, rfl, rfl, H, HBwr0, Oout_7l0⟩ := hrel
    rename World => wr0
    cases gk with
    | zero => exact (loop_zero H).elim
    | succ m0 =>
      replace H := loop_succ H
      unfold l0 at H
      replace H := unp2_hid H
      cases more_8l0 with
      | false =>
        replace H := ite_f H
        replace H := app_hid H
        unfold e0 at H
        replace H := unp2_hid H
        obtain rfl := ret_hid H
        go_wp2_with fail
        go_ret
        exact ⟨Aout_7l0, cout_7l0, rfl, Oout_7l0.out, HBwr0.out⟩
      | true =>
        replace H := ite_t H
        go_wp2_with fail
        go_loopg [9, 7, 8] (list.length) (fun m_ v9_ v7_ v8_ wr => ∃ (k1 : Nat) (out_7l1 : (List Int)) (more_8l1 : Bool) (Aout_7l1 : Option Addr) (cout_7l1 : Nat), k1 + m_ = list.length ∧ v9_ = .int .i64 (k1 : Int) ∧ v7_ = .slice Aout_7l1 out_7l1.length cout_7l1 ∧ v8_ = .bool more_8l1 ∧ Hid (cntK (l1 list limit fuel) m_ k1 (out_7l1, more_8l1) (e1 (fun s' => loopK (l0 list limit fuel) m0 s' (e0 ))) = some r) ∧ Hid (Below w.heap.size w wr) ∧ Hid (wr.ownsRow w.heap.size 3 1 (.slice Aout_7l1 out_7l1.length cout_7l1) out_7l1.length (Go.Proofs.Ytpaakpbbahbhcaa.HelpInt.iv out_7l1)))
        case atStart => exact ⟨0, _, _, _, _, by omega, rfl, rfl, rfl, H, HBwr0, Oout_7l0⟩
        case round =>
          obtain ⟨k1, out_7l1, more_8l1, Aout_7l1, cout_7l1, hkm1, rfl, rfl, rfl, H, HBwr1, Oout_7l1⟩ := hrel
          rename World => wr1
          cases gk with
          | zero =>
            obtain rfl : k1 = list.length := by omega
            have hc1 : decide (((list.length : Nat) : Int) < ((list.length : Nat) : Int)) = false := by simp
            replace H := cnt_zero H
            unfold e1 at H
            replace H := unp2_hid H
            replace H := app_hid H
            go_wp2_with fail
            go_roundg m0
            case measure => omega
            case rel => exact ⟨_, _, _, _, rfl, rfl, H, HBwr1, Oout_7l1⟩
          | succ m1 =>
            have hlt1 : k1 < list.length := by omega
            have hc1 : decide ((k1 : Int) < ((list.length : Nat) : Int)) = true := by simp; omega
            replace H := cnt_succ H
            unfold l1 at H
            replace H := unp2_hid H
            go_wp2_with fail
            go_loopg [7, 8, 10] (fuel) (fun m_ v7_ v8_ v10_ wr => ∃ (out_7l2 : (List Int)) (more_8l2 : Bool) (i_10l2 : Int) (Aout_7l2 : Option Addr) (cout_7l2 : Nat), v7_ = .slice Aout_7l2 out_7l2.length cout_7l2 ∧ v8_ = .bool more_8l2 ∧ v10_ = .int .i64 i_10l2 ∧ Hid (loopK (l2 list limit fuel k1) m_ (out_7l2, more_8l2, i_10l2) (e2 (fun s' => cntK (l1 list limit fuel) m1 (k1 + 1) s' (e1 (fun s' => loopK (l0 list limit fuel) m0 s' (e0 ))))) = some r) ∧ Hid (Below w.heap.size w wr) ∧ Hid (wr.ownsRow w.heap.size 3 1 (.slice Aout_7l2 out_7l2.length cout_7l2) out_7l2.length (Go.Proofs.Ytpaakpbbahbhcaa.HelpInt.iv out_7l2)))
            case atStart => exact ⟨_, _, _, _, _, rfl, rfl, rfl, H, HBwr1, Oout_7l1⟩
            case round =>
              obtain ⟨out_7l2, more_8l2, i_10l2, Aout_7l2, cout_7l2, rfl, rfl, rfl, H, HBwr2, Oout_7l2⟩ := hrel
              rename World => wr2
              cases gk with
              | zero => exact (loop_zero H).elim
              | succ m2 =>
                replace H := loop_succ H
                unfold l2 at H
                replace H := unp3_hid H
                replace H := let_hid H
                obtain ⟨t_16, ht_16, H⟩ := H
                replace H := join_hid H
                cases t_16 with
                | false =>
                  replace H := ite_f H
                  replace H := app_hid H
                  replace H := ite_f H
                  replace H := app_hid H
                  unfold e2 at H
                  replace H := unp3_hid H
                  replace H := app_hid H
                  go_wp2_with fail
                  go_roundg m1
                  case measure => omega
                  case rel => exact ⟨k1 + 1, _, _, _, _, by omega, by go_num, rfl, rfl, H, HBwr2, Oout_7l2⟩
                | true =>
                  replace H := ite_t H
                  replace H := bind_hid H
                  obtain ⟨t_20, qt_20, H⟩ := H
                  go_wp2_with fail
                  go_at_call 57
                  refine (Go.Proofs.Ytpaakpbbahbhcaa.GsL1Has.C (out_7l2) ((k1 : Int)) Aout_7l2 cout_7l2 _   (Lib.hid (own_cells Oout_7l2.out)) (Lib.hid (own_max Oout_7l2.out)) qt_20).mono ?_
                  rintro e_t_20 wt_20 ⟨rfl, bt_20⟩
                  have HBwt_20 := Lib.hid (Below.step HBwr2.out bt_20)
                  replace Oout_7l2 := Lib.hid (own_below Oout_7l2.out bt_20)
                  clear bt_20
                  cases t_20 with
                  | false =>
                    replace H := let_hid H
                    obtain ⟨t_21, ht_21, H⟩ := H
                    obtain rfl : t_21 = true := ht_21.symm
                    replace H := app_hid H
                    replace H := ite_t H
                    go_wp2_with fail
                    replace H := idx_hid H
                    obtain ⟨nt_26, yt_26, et_26, lt_26, gt_26, H⟩ := H
                    subst et_26
                    have nc_119 : nt_26 < out_7l2.length := by have := of_decide_eq_true ht_16; omega
                    obtain ⟨qt_26, Qt_26⟩ := own_some Oout_7l2.out (by omega)
                    subst Qt_26
                    obtain ⟨ab_t_26, ao_t_26, zt_26, At_26, z_t_26, ct_26_0⟩ := Go.Proofs.Ytpaakpbbahbhcaa.HelpInt.Ints.at_ (own_cells Oout_7l2.out) (k := nt_26) (by omega)
                    obtain rfl := Option.some.inj (gt_26.out.symm.trans z_t_26)
                    simp only [Option.some.injEq, Addr.mk.injEq] at At_26
                    obtain ⟨rfl, rfl, _⟩ := At_26
                    clear z_t_26
                    simp only [Nat.zero_add] at ct_26_0
                    have b0t_26 : (0 : Int) ≤ (nt_26 : Int) := by omega
                    have b1t_26 : (nt_26 : Int) < ((out_7l2.length : Nat) : Int) := by omega
                    have b2t_26 : ((nt_26 : Int)).toNat = nt_26 := by omega
                    have Hct_26_0 := Lib.hid ct_26_0
                    replace ct_26_0 := cell_regrown ct_26_0
                    replace H := idx_hid H
                    obtain ⟨nt_28, yt_28, et_28, lt_28, gt_28, H⟩ := H
                    subst et_28
                    obtain ⟨t_28_id, t_28_year, t_28_town, t_28_traits⟩ := yt_28
                    replace H := unSighting_hid H
                    obtain ⟨bbt_28, oot_28, zt_28, Art_28, crt_28, eAt_28, zzt_28, hKt_28, hrt_28, hqt_28, hnt_28⟩ := Go.Proofs.Ytpaakpbbahbhcaa.GoV.nest_at M0.out (k := nt_28) lt_28
                    obtain rfl := Option.some.inj (gt_28.out.symm.trans zzt_28)
                    clear zzt_28
                    subst eAt_28
                    have hct_28_0 : w.cell? ⟨bbt_28, oot_28 + nt_28 * 4, none⟩ = some (.int .i64 t_28_id) := hKt_28 0 _ rfl
                    have hct_28_1 : w.cell? ⟨bbt_28, oot_28 + nt_28 * 4 + 1, none⟩ = some (.int .i64 t_28_year) := hKt_28 1 _ rfl
                    have hct_28_2 : w.cell? ⟨bbt_28, oot_28 + nt_28 * 4 + 2, none⟩ = some (.string t_28_town) := hKt_28 2 _ rfl
                    have hct_28_3 : w.cell? ⟨bbt_28, oot_28 + nt_28 * 4 + 3, none⟩ = some (.slice Art_28 t_28_traits.length crt_28) := hKt_28 3 _ rfl
                    clear hKt_28
                    have ltt_28 := cell_lt hct_28_0
                    replace hct_28_0 := cell_below HBwt_20.out hct_28_0
                    replace hct_28_1 := cell_below HBwt_20.out hct_28_1
                    replace hct_28_2 := cell_below HBwt_20.out hct_28_2
                    replace hct_28_3 := cell_below HBwt_20.out hct_28_3
                    have Mrt_28 := Lib.hid hrt_28
                    have Qrt_28 := Lib.hid hqt_28
                    have Nrt_28 := Lib.hid hnt_28
                    clear hrt_28 hqt_28 hnt_28
                    have b0t_28 : (0 : Int) ≤ (nt_28 : Int) := by omega
                    have b1t_28 : (nt_28 : Int) < ((list.length : Nat) : Int) := by omega
                    have b2t_28 : ((nt_28 : Int)).toNat = nt_28 := by omega
                    have Hhct_28_0 := Lib.hid hct_28_0
                    replace hct_28_0 := cell_regrown hct_28_0
                    have Hhct_28_1 := Lib.hid hct_28_1
                    replace hct_28_1 := cell_regrown hct_28_1
                    have Hhct_28_2 := Lib.hid hct_28_2
                    replace hct_28_2 := cell_regrown hct_28_2
                    have Hhct_28_3 := Lib.hid hct_28_3
                    replace hct_28_3 := cell_regrown hct_28_3
                    replace H := idx_hid H
                    obtain ⟨nt_32, yt_32, et_32, lt_32, gt_32, H⟩ := H
                    obtain rfl : k1 = nt_32 := by omega
                    clear et_32
                    obtain ⟨t_32_id, t_32_year, t_32_town, t_32_traits⟩ := yt_32
                    replace H := unSighting_hid H
                    obtain ⟨bbt_32, oot_32, zt_32, Art_32, crt_32, eAt_32, zzt_32, hKt_32, hrt_32, hqt_32, hnt_32⟩ := Go.Proofs.Ytpaakpbbahbhcaa.GoV.nest_at M0.out (k := k1) lt_32
                    obtain rfl := Option.some.inj (gt_32.out.symm.trans zzt_32)
                    clear zzt_32
                    simp only [Option.some.injEq, Addr.mk.injEq] at eAt_32
                    obtain ⟨rfl, rfl, _⟩ := eAt_32
                    have hct_32_0 : w.cell? ⟨bbt_28, oot_28 + k1 * 4, none⟩ = some (.int .i64 t_32_id) := hKt_32 0 _ rfl
                    have hct_32_1 : w.cell? ⟨bbt_28, oot_28 + k1 * 4 + 1, none⟩ = some (.int .i64 t_32_year) := hKt_32 1 _ rfl
                    have hct_32_2 : w.cell? ⟨bbt_28, oot_28 + k1 * 4 + 2, none⟩ = some (.string t_32_town) := hKt_32 2 _ rfl
                    have hct_32_3 : w.cell? ⟨bbt_28, oot_28 + k1 * 4 + 3, none⟩ = some (.slice Art_32 t_32_traits.length crt_32) := hKt_32 3 _ rfl
                    clear hKt_32
                    have ltt_32 := cell_lt hct_32_0
                    replace hct_32_0 := cell_below HBwt_20.out hct_32_0
                    replace hct_32_1 := cell_below HBwt_20.out hct_32_1
                    replace hct_32_2 := cell_below HBwt_20.out hct_32_2
                    replace hct_32_3 := cell_below HBwt_20.out hct_32_3
                    have Mrt_32 := Lib.hid hrt_32
                    have Qrt_32 := Lib.hid hqt_32
                    have Nrt_32 := Lib.hid hnt_32
                    clear hrt_32 hqt_32 hnt_32
                    have b0t_32 : (0 : Int) ≤ (k1 : Int) := by omega
                    have b1t_32 : (k1 : Int) < ((list.length : Nat) : Int) := by omega
                    have b2t_32 : ((k1 : Int)).toNat = k1 := by omega
                    have Hhct_32_0 := Lib.hid hct_32_0
                    replace hct_32_0 := cell_regrown hct_32_0
                    have Hhct_32_1 := Lib.hid hct_32_1
                    replace hct_32_1 := cell_regrown hct_32_1
                    have Hhct_32_2 := Lib.hid hct_32_2
                    replace hct_32_2 := cell_regrown hct_32_2
                    have Hhct_32_3 := Lib.hid hct_32_3
                    replace hct_32_3 := cell_regrown hct_32_3
                    replace H := bind_hid H
                    obtain ⟨t_34, qt_34, H⟩ := H
                    have nt_34 : ∀ d os, Calls Try.prog 60 #[.agg #[.int .i64 t_28_id, .int .i64 t_28_year, .string t_28_town, .slice Art_28 t_28_traits.length crt_28], .agg #[.int .i64 t_32_id, .int .i64 t_32_year, .string t_32_town, .slice Art_32 t_32_traits.length crt_32]] (Go.Sort.grow (redrawn wt_20 d) os) fun e w'' => e = .returned (.int .i64 t_34) ∧ ∃ p : Regrown, w'' = Go.Sort.grow (redrawn wt_20 p.d) p.os := fun d os => Calls.regrown_of (Go.Proofs.Ytpaakpbbahbhcaa.GsL13Evidence.C fuel (t_28_id) (t_28_year) (t_28_town) (t_28_traits) (t_32_id) (t_32_year) (t_32_town) (t_32_traits) Art_28 crt_28 Art_32 crt_32 _   (Lib.hid (Cells.below (Cells.below Mrt_28.out HBwt_20.out) (below_regrown _ _ _))) Nrt_28 (Lib.hid (Cells.below (Cells.below Mrt_32.out HBwt_20.out) (below_regrown _ _ _))) Nrt_32 qt_34)
                    replace H := let_hid H
                    obtain ⟨t_36, ht_36, H⟩ := H
                    refine wp_region_quiet_below (by kernel_rfl) (by kernel_rfl) ?_
                    repeat (go_big_quiet_step (first | (go_at_call 60; exact nt_34 _ _)))
                    refine wpQuiet_nil ?_
                    intro Y11 hY11
                    replace hY11 := below_class hY11
                    clear nt_34
                    replace ct_26_0 := Hct_26_0.out
                    clear Hct_26_0
                    replace hct_28_0 := Hhct_28_0.out
                    clear Hhct_28_0
                    replace hct_28_1 := Hhct_28_1.out
                    clear Hhct_28_1
                    replace hct_28_2 := Hhct_28_2.out
                    clear Hhct_28_2
                    replace hct_28_3 := Hhct_28_3.out
                    clear Hhct_28_3
                    replace hct_32_0 := Hhct_32_0.out
                    clear Hhct_32_0
                    replace hct_32_1 := Hhct_32_1.out
                    clear Hhct_32_1
                    replace hct_32_2 := Hhct_32_2.out
                    clear Hhct_32_2
                    replace hct_32_3 := Hhct_32_3.out
                    clear Hhct_32_3
                    have HBY11 := Lib.hid (Below.step HBwt_20.out hY11)
                    replace ct_26_0 := cell_below hY11 ct_26_0
                    replace hct_28_0 := cell_below hY11 hct_28_0
                    replace hct_28_1 := cell_below hY11 hct_28_1
                    replace hct_28_2 := cell_below hY11 hct_28_2
                    replace hct_28_3 := cell_below hY11 hct_28_3
                    replace hct_32_0 := cell_below hY11 hct_32_0
                    replace hct_32_1 := cell_below hY11 hct_32_1
                    replace hct_32_2 := cell_below hY11 hct_32_2
                    replace hct_32_3 := cell_below hY11 hct_32_3
                    replace Oout_7l2 := Lib.hid (own_below Oout_7l2.out hY11)
                    clear hY11
                    cases t_36 with
                    | false =>
                      replace H := ite_f H
                      replace H := let_hid H
                      obtain ⟨t_43, ht_43, H⟩ := H
                      replace H := app_hid H
                      go_wp2_with fail
                      go_roundg m2
                      case measure => omega
                      case rel => exact ⟨_, _, _, _, _, rfl, rfl, rfl, H, HBY11, Oout_7l2⟩
                    | true =>
                      replace H := ite_t H
                      replace H := bind_hid H
                      obtain ⟨t_39, qt_39, H⟩ := H
                      go_wp2_with fail
                      go_at_call 73
                      refine (Go.Proofs.Ytpaakpbbahbhcaa.GsL1Put.C fuel (out_7l2) ((k1 : Int)) (some ⟨qt_26, 0, none⟩) cout_7l2 w.heap.size _   Oout_7l2 (Lib.hid (own_max Oout_7l2.out)) (Lib.hid (own_room Oout_7l2.out)) (Lib.hid HBY11.out.size)  qt_39).mono ?_
                      rintro e_t_39 wt_39 ⟨At_39, ct_39, rfl, ot_39, gt_39, yt_39⟩
                      have Pt_39 := Lib.hid ot_39
                      have Gt_39 := Lib.hid gt_39
                      replace yt_39 := Lib.hid yt_39
                      clear ot_39 gt_39
                      have HBwt_39 := Lib.hid (HBY11.out.grown Gt_39.out HBY11.out.size (fun q hq => (Oout_7l2.out.lt q hq).1))
                      clear ct_26_0
                      replace hct_28_0 := cell_other hct_28_0 Gt_39.out (apart_old Oout_7l2.out ltt_28)
                      replace hct_28_1 := cell_other hct_28_1 Gt_39.out (apart_old Oout_7l2.out ltt_28)
                      replace hct_28_2 := cell_other hct_28_2 Gt_39.out (apart_old Oout_7l2.out ltt_28)
                      replace hct_28_3 := cell_other hct_28_3 Gt_39.out (apart_old Oout_7l2.out ltt_28)
                      replace hct_32_0 := cell_other hct_32_0 Gt_39.out (apart_old Oout_7l2.out ltt_32)
                      replace hct_32_1 := cell_other hct_32_1 Gt_39.out (apart_old Oout_7l2.out ltt_32)
                      replace hct_32_2 := cell_other hct_32_2 Gt_39.out (apart_old Oout_7l2.out ltt_32)
                      replace hct_32_3 := cell_other hct_32_3 Gt_39.out (apart_old Oout_7l2.out ltt_32)
                      clear Oout_7l2 Gt_39 yt_39
                      replace H := let_hid H
                      obtain ⟨t_43, ht_43, H⟩ := H
                      replace H := app_hid H
                      go_wp2_with fail
                      go_roundg m2
                      case measure => omega
                      case rel => exact ⟨_, _, _, _, _, rfl, rfl, rfl, H, HBwt_39, Pt_39⟩
                  | true =>
                    replace H := let_hid H
                    obtain ⟨t_21, ht_21, H⟩ := H
                    obtain rfl : t_21 = false := ht_21.symm
                    replace H := app_hid H
                    replace H := ite_f H
                    replace H := app_hid H
                    unfold e2 at H
                    replace H := unp3_hid H
                    replace H := app_hid H
                    go_wp2_with fail
                    go_roundg m1
                    case measure => omega
                    case rel => exact ⟨k1 + 1, _, _, _, _, by omega, by go_num, rfl, rfl, H, HBwt_20, Oout_7l2⟩
end Go.Proofs.Ytpaakpbbahbhcaa.GsL13Cover

/- loop.example/g01062/spec.CoversSeen as a plain function, and the contract of the program's: where the plain one has an answer, the program has it. Conditions: slices read as lists. -/
namespace Go.Proofs.Ytpaakpbbahbhcaa.GsCoversSeen
set_option linter.unusedVariables false
set_option linter.unusedSimpArgs false
open Go.RowKit
open Go.Proofs.Ytpaakpbbahbhcaa.Rowed Go.Proofs.Ytpaakpbbahbhcaa.Turn Go.Proofs.Ytpaakpbbahbhcaa.Aid Go.Proofs.Ytpaakpbbahbhcaa.GoP Go.Proofs.Ytpaakpbbahbhcaa.GoM

def l1 (list : (List Go.Proofs.Ytpaakpbbahbhcaa.PSighting.Sighting)) (t_23 : (List Int)) (k1 : Nat) (s : (List Int)) (nx1 bk1 : (List Int) → Option ((List (List Int)) × Bool)) : Option ((List (List Int)) × Bool) :=
  letK s fun ids_9l1 =>
  Option.bind (idx t_23 (k1 : Int)) fun (yt_41 : Int) =>
  Option.bind (idx list yt_41) fun (yt_43 : Go.Proofs.Ytpaakpbbahbhcaa.PSighting.Sighting) =>
  unSighting yt_43 fun (t_43_id : Int) (t_43_year : Int) (t_43_town : ByteArray) (t_43_traits : (List Int)) =>
  guardK (ids_9l1.length ≤ 1099511627776) <|
  letK (ids_9l1 ++ [t_43_id]) fun (t_47 : (List Int)) =>
  appK nx1 (t_47)

def e1 (nx0 : ((List (List Int))) → Option ((List (List Int)) × Bool)) (out_6l0 : (List (List Int))) (s : (List Int)) : Option ((List (List Int)) × Bool) :=
  letK s fun ids_9l1 =>
  guardK (out_6l0.length ≤ 1099511627776) <|
  letK (out_6l0 ++ [ids_9l1]) fun (t_55 : (List (List Int))) =>
  appK nx0 (t_55)

def l0 (list : (List Go.Proofs.Ytpaakpbbahbhcaa.PSighting.Sighting)) (limit : Int) (fuel : Nat) (k0 : Nat) (s : (List (List Int))) (nx0 bk0 : (List (List Int)) → Option ((List (List Int)) × Bool)) : Option ((List (List Int)) × Bool) :=
  letK s fun out_6l0 =>
  Option.bind (Go.Proofs.Ytpaakpbbahbhcaa.GsL13Cover.P fuel list limit (k0 : Int)) fun (t_23 : (List Int)) =>
  Option.bind (idx t_23 0) fun (yt_26 : Int) =>
  letK (decide (yt_26 < (k0 : Int))) fun (t_29 : Bool) =>
  iteK t_29
  (appK nx0 (out_6l0))
  (cntK (l1 list t_23) (t_23.length) 0 (([] : List Int)) (e1 nx0 out_6l0))

def e0  (s : (List (List Int))) : Option ((List (List Int)) × Bool) :=
  letK s fun out_6l0 =>
  some (out_6l0, true)

def P (fuel : Nat) (list : (List Go.Proofs.Ytpaakpbbahbhcaa.PSighting.Sighting)) (limit : Int) : Option ((List (List Int)) × Bool) :=
  Option.bind (Go.Proofs.Ytpaakpbbahbhcaa.GsL13Good.P list) fun (t_5 : Bool) =>
  letK (!t_5) fun (t_6 : Bool) =>
  joinK (fun (t_11 : Bool) =>
  iteK t_11
  (some (([] : List (List Int)), false))
  (cntK (l0 list limit fuel) (list.length) 0 (([] : List (List Int))) (e0 ))) fun jt_11 => iteK t_6 (appK jt_11 true) (Option.bind (Go.Proofs.Ytpaakpbbahbhcaa.GsL13Limit.P limit) fun (t_9 : Bool) =>
  letK (!t_9) fun (t_10 : Bool) =>
  appK jt_11 t_10)

set_option maxRecDepth 100000 in
set_option maxHeartbeats 2000000 in
theorem C (fuel : Nat) (list : (List Go.Proofs.Ytpaakpbbahbhcaa.PSighting.Sighting)) (limit : Int) (A0 : Option Addr) (c0 : Nat)  (w : World) (M0 : Hid (Go.Proofs.Ytpaakpbbahbhcaa.GoV.ReadNest w Go.Proofs.Ytpaakpbbahbhcaa.GoVSighting.lay A0 list)) (N0 : Hid (list.length ≤ 9223372036854775807))  {r0 : (List (List Int))} {r1 : Bool} (H : Hid (P fuel list limit = some (r0, r1))) :
    Calls Try.prog 23 #[.slice A0 list.length c0, .int .i64 limit] w (fun e w' => ∃ A_r0 c_r0, e = .returned (.tuple #[.slice A_r0 r0.length c_r0, .bool r1]) ∧ (∃ B_, Go.Proofs.Ytpaakpbbahbhcaa.GoN.OwnNest w' (w.heap.size) 32 3 1 Go.Proofs.Ytpaakpbbahbhcaa.HelpInt.iv A_r0 c_r0 r0 B_) ∧ Below w.heap.size w w') := by
  have HB := Lib.hid (Below.refl w.heap.size w)
  unfold P at H
  have N0o := N0.out
  obtain ⟨i0_32, hi_32, hz0_32, hz1_32, hz2_32⟩ := Aid.info_parts (P := Try.prog) (T := 32) (z := .slice none 0 0) (s := 1) (b := 24) (by kernel_rfl)
  obtain ⟨i0_3, hi_3, hz0_3, hz1_3, hz2_3⟩ := Aid.info_parts (P := Try.prog) (T := 3) (z := .int .i64 0) (s := 1) (b := 8) (by kernel_rfl)
  go_enter Try.func23, Try.ntmps23
  obtain ⟨w_t_2, hw_t_2⟩ : ∃ x, w.alloc (.cells #[] 32) = x := ⟨_, rfl⟩
  have bw_t_2 : Below w.heap.size w w_t_2 := by rw [← hw_t_2]; exact (Below.refl _ _).alloc (Nat.le_refl _) _
  have Ot_2 : Hid (Go.Proofs.Ytpaakpbbahbhcaa.GoN.OwnNest w_t_2 (w.heap.size) 32 3 1 Go.Proofs.Ytpaakpbbahbhcaa.HelpInt.iv (some ⟨w.heap.size, 0, none⟩) 0 ([] : List (List Int)) [some ⟨w.heap.size, 0, none⟩]) := Lib.hid (by rw [← hw_t_2]; exact Go.Proofs.Ytpaakpbbahbhcaa.GoN.nest_empty HB.out.size)
  have HBw_t_2 := Lib.hid (Below.step HB.out bw_t_2)
  clear bw_t_2
  replace H := bind_hid H
  obtain ⟨t_5, qt_5, H⟩ := H
  go_wp2_with fail
  go_at_call 56
  refine (Go.Proofs.Ytpaakpbbahbhcaa.GsL13Good.C (list) A0 c0 _   (Lib.hid (Go.Proofs.Ytpaakpbbahbhcaa.GoV.read_below M0.out HBw_t_2.out)) N0 qt_5).mono ?_
  rintro e_t_5 wt_5 ⟨rfl, bt_5⟩
  have HBwt_5 := Lib.hid (Below.step HBw_t_2.out bt_5)
  replace Ot_2 := Lib.hid (Go.Proofs.Ytpaakpbbahbhcaa.GoN.nest_below Ot_2.out bt_5)
  clear bt_5
  cases t_5 with
  | false =>
    replace H := let_hid H
    obtain ⟨t_6, ht_6, H⟩ := H
    obtain rfl : t_6 = true := ht_6.symm
    replace H := join_hid H
    replace H := ite_t H
    replace H := app_hid H
    replace H := ite_t H
    cases ret_hid H
    go_wp2_with fail
    go_ret2
    exact ⟨(some ⟨w.heap.size, 0, none⟩), 0, rfl, ⟨_, Ot_2.out⟩, HBwt_5.out⟩
  | true =>
    replace H := let_hid H
    obtain ⟨t_6, ht_6, H⟩ := H
    obtain rfl : t_6 = false := ht_6.symm
    replace H := join_hid H
    replace H := ite_f H
    replace H := bind_hid H
    obtain ⟨t_9, qt_9, H⟩ := H
    go_wp2_with fail
    go_at_call 65
    refine (Go.Proofs.Ytpaakpbbahbhcaa.GsL13Limit.C (limit)  _    qt_9).mono ?_
    rintro e_t_9 wt_9 ⟨rfl, bt_9⟩
    have HBwt_9 := Lib.hid (Below.step HBwt_5.out bt_9)
    replace Ot_2 := Lib.hid (Go.Proofs.Ytpaakpbbahbhcaa.GoN.nest_below Ot_2.out bt_9)
    clear bt_9
    cases t_9 with
    | false =>
      replace H := let_hid H
      obtain ⟨t_10, ht_10, H⟩ := H
      obtain rfl : t_10 = true := ht_10.symm
      replace H := app_hid H
      replace H := ite_t H
      cases ret_hid H
      go_wp2_with fail
      go_ret2
      exact ⟨(some ⟨w.heap.size, 0, none⟩), 0, rfl, ⟨_, Ot_2.out⟩, HBwt_9.out⟩
    | true =>
      replace H := let_hid H
      obtain ⟨t_10, ht_10, H⟩ := H
      obtain rfl : t_10 = false := ht_10.symm
      replace H := app_hid H
      replace H := ite_f H
      go_wp2_with fail
      go_loopg [7, 6] (list.length) (fun m_ v7_ v6_ wr => ∃ (k0 : Nat) (out_6l0 : (List (List Int))) (Aout_6l0 : Option Addr) (cout_6l0 : Nat) (Bout_6l0 : List (Option Addr)), k0 + m_ = list.length ∧ v7_ = .int .i64 (k0 : Int) ∧ v6_ = .slice Aout_6l0 out_6l0.length cout_6l0 ∧ Hid (cntK (l0 list limit fuel) m_ k0 (out_6l0) (e0 ) = some (r0, r1)) ∧ Hid (Below w.heap.size w wr) ∧ Hid (Go.Proofs.Ytpaakpbbahbhcaa.GoN.OwnNest wr (w.heap.size) 32 3 1 Go.Proofs.Ytpaakpbbahbhcaa.HelpInt.iv Aout_6l0 cout_6l0 out_6l0 Bout_6l0))
      case atStart => exact ⟨0, _, _, _, _, by omega, rfl, rfl, H, HBwt_9, Ot_2⟩
      case round =>
        obtain ⟨k0, out_6l0, Aout_6l0, cout_6l0, Bout_6l0, hkm0, rfl, rfl, H, HBwr0, Oout_6l0⟩ := hrel
        rename World => wr0
        cases gk with
        | zero =>
          obtain rfl : k0 = list.length := by omega
          have hc0 : decide (((list.length : Nat) : Int) < ((list.length : Nat) : Int)) = false := by simp
          replace H := cnt_zero H
          unfold e0 at H
          replace H := let_hid H
          obtain ⟨_, rfl, H⟩ := H
          cases ret_hid H
          go_wp2_with fail
          go_ret2
          exact ⟨Aout_6l0, cout_6l0, rfl, ⟨_, Oout_6l0.out⟩, HBwr0.out⟩
        | succ m0 =>
          have hlt0 : k0 < list.length := by omega
          have hc0 : decide ((k0 : Int) < ((list.length : Nat) : Int)) = true := by simp; omega
          replace H := cnt_succ H
          unfold l0 at H
          replace H := let_hid H
          obtain ⟨_, rfl, H⟩ := H
          replace H := bind_hid H
          obtain ⟨t_23, qt_23, H⟩ := H
          go_wp2_with fail
          go_at_call 58
          refine (Go.Proofs.Ytpaakpbbahbhcaa.GsL13Cover.C fuel (list) (limit) ((k0 : Int)) A0 c0 _   (Lib.hid (Go.Proofs.Ytpaakpbbahbhcaa.GoV.read_below M0.out HBwr0.out)) N0 qt_23).mono ?_
          rintro e_t_23 wt_23 ⟨At_23, ct_23, rfl, ot_23, bt_23⟩
          have Dt_23_out_6l0 := Lib.hid (Go.Proofs.Ytpaakpbbahbhcaa.GoN.nest_call ot_23 Oout_6l0.out)
          have Ot_23 := Lib.hid (own_lower ot_23 HBwr0.out.size)
          clear ot_23
          have HBwt_23 := Lib.hid (Below.step HBwr0.out bt_23)
          replace Oout_6l0 := Lib.hid (Go.Proofs.Ytpaakpbbahbhcaa.GoN.nest_below Oout_6l0.out bt_23)
          clear bt_23
          replace H := idx_hid H
          obtain ⟨nt_26, yt_26, et_26, lt_26, gt_26, H⟩ := H
          obtain rfl : 0 = nt_26 := by omega
          clear et_26
          obtain ⟨qt_26, Qt_26⟩ := own_some Ot_23.out (by omega)
          subst Qt_26
          obtain ⟨ab_t_26, ao_t_26, zt_26, At_26, z_t_26, ct_26_0⟩ := Go.Proofs.Ytpaakpbbahbhcaa.HelpInt.Ints.at_ (own_cells Ot_23.out) (k := 0) (by omega)
          obtain rfl := Option.some.inj (gt_26.out.symm.trans z_t_26)
          simp only [Option.some.injEq, Addr.mk.injEq] at At_26
          obtain ⟨rfl, rfl, _⟩ := At_26
          clear z_t_26
          have b1t_26 : (0 : Int) < ((t_23.length : Nat) : Int) := by omega
          have b3t_26 : 0 < t_23.length := by omega
          try simp only [Nat.zero_mul, Nat.add_zero, Nat.zero_add, Nat.reduceMul] at ct_26_0
          replace H := let_hid H
          obtain ⟨t_29, ht_29, H⟩ := H
          cases t_29 with
          | false =>
            replace H := ite_f H
            obtain ⟨w_t_30, hw_t_30⟩ : ∃ x, wt_23.alloc (.cells #[] 3) = x := ⟨_, rfl⟩
            have bw_t_30 : Below wt_23.heap.size wt_23 w_t_30 := by rw [← hw_t_30]; exact (Below.refl _ _).alloc (Nat.le_refl _) _
            have Ot_30 : Hid (w_t_30.ownsRow w.heap.size 3 1 (.slice (some ⟨wt_23.heap.size, 0, none⟩) 0 0) 0 []) := Lib.hid (by rw [← hw_t_30]; exact own_empty HBwt_23.out.size)
            have Dt_30_out_6l0 := Lib.hid (Go.Proofs.Ytpaakpbbahbhcaa.GoN.nest_fresh Oout_6l0.out)
            have Dt_30_t_23 := Lib.hid (apart_fresh Ot_23.out)
            have HBw_t_30 := Lib.hid (Below.step HBwt_23.out bw_t_30)
            have ct_26_0__201 := cell_below bw_t_30 ct_26_0
            replace Oout_6l0 := Lib.hid (Go.Proofs.Ytpaakpbbahbhcaa.GoN.nest_below Oout_6l0.out bw_t_30)
            replace Ot_23 := Lib.hid (own_below Ot_23.out bw_t_30)
            clear bw_t_30
            have hb_1 : t_23.length ≤ 9223372036854775807 := own_max Ot_23.out
            go_wp2_with fail
            clear ct_26_0
            go_loopg [10, 9] (t_23.length) (fun m_ v10_ v9_ wr => ∃ (k1 : Nat) (ids_9l1 : (List Int)) (Aids_9l1 : Option Addr) (cids_9l1 : Nat), k1 + m_ = t_23.length ∧ v10_ = .int .i64 (k1 : Int) ∧ v9_ = .slice Aids_9l1 ids_9l1.length cids_9l1 ∧ Hid (cntK (l1 list t_23) m_ k1 (ids_9l1) (e1 (fun s' => cntK (l0 list limit fuel) m0 (k0 + 1) s' (e0 )) out_6l0) = some (r0, r1)) ∧ Hid (Below w.heap.size w wr) ∧ Hid (wr.ownsRow w.heap.size 3 1 (.slice Aids_9l1 ids_9l1.length cids_9l1) ids_9l1.length (Go.Proofs.Ytpaakpbbahbhcaa.HelpInt.iv ids_9l1)) ∧ Hid (Go.Proofs.Ytpaakpbbahbhcaa.GoN.OwnNest wr (w.heap.size) 32 3 1 Go.Proofs.Ytpaakpbbahbhcaa.HelpInt.iv Aout_6l0 cout_6l0 out_6l0 Bout_6l0) ∧ Hid (wr.ownsRow w.heap.size 3 1 (.slice (some ⟨qt_26, 0, none⟩) t_23.length ct_23) t_23.length (Go.Proofs.Ytpaakpbbahbhcaa.HelpInt.iv t_23)) ∧ Hid (∀ y_ ∈ Bout_6l0, Apart Aids_9l1 y_) ∧ Hid (Apart Aids_9l1 (some ⟨qt_26, 0, none⟩)))
            case atStart => exact ⟨0, _, _, _, by omega, rfl, rfl, H, HBw_t_30, Ot_30, Oout_6l0, Ot_23, Lib.hid Dt_30_out_6l0.out, Lib.hid Dt_30_t_23.out⟩
            case round =>
              obtain ⟨k1, ids_9l1, Aids_9l1, cids_9l1, hkm1, rfl, rfl, H, HBwr1, Oids_9l1, Oout_6l0, Ot_23, Dids_9l1_out_6l0, Dids_9l1_t_23⟩ := hrel
              rename World => wr1
              cases gk with
              | zero =>
                obtain rfl : k1 = t_23.length := by omega
                have hc1 : decide (((t_23.length : Nat) : Int) < ((t_23.length : Nat) : Int)) = false := by simp
                replace H := cnt_zero H
                unfold e1 at H
                replace H := let_hid H
                obtain ⟨_, rfl, H⟩ := H
                obtain ⟨w_t_54, hw_t_54⟩ : ∃ x, wr1.alloc (.cells #[.slice Aids_9l1 ids_9l1.length cids_9l1] 32) = x := ⟨_, rfl⟩
                have bw_t_54 : Below wr1.heap.size wr1 w_t_54 := by rw [← hw_t_54]; exact (Below.refl _ _).alloc (Nat.le_refl _) _
                have HBw_t_54 := Lib.hid (Below.step HBwr1.out bw_t_54)
                replace Oout_6l0 := Lib.hid (Go.Proofs.Ytpaakpbbahbhcaa.GoN.nest_below Oout_6l0.out bw_t_54)
                replace Ot_23 := Lib.hid (own_below Ot_23.out bw_t_54)
                replace Oids_9l1 := Lib.hid (own_below Oids_9l1.out bw_t_54)
                clear bw_t_54
                replace H := guard_hid H
                obtain ⟨hlt_55, H⟩ := H
                replace H := let_hid H
                obtain ⟨t_55, ht_55, H⟩ := H
                have hht_55 := Lib.hid ht_55
                clear ht_55
                have hst_55 := HBw_t_54.out.size
                obtain ⟨zt_55, h1t_55, h2t_55, h3t_55, h4t_55, h5t_55⟩ := Oout_6l0.out
                have h1t_55i := Lib.hid h1t_55
                have h3t_55i := Lib.hid h3t_55
                have h4t_55i := Lib.hid h4t_55
                have h5t_55i := Lib.hid h5t_55
                clear h1t_55 h3t_55 h4t_55 h5t_55
                have h2t_55i := Lib.hid h2t_55
                clear h2t_55
                go_wp2_with (at_builtin; refine wpList_append_own_at _ rfl _ _ 29 rfl w.heap.size 32 i0_32 (.slice none 0 0) 1 24 Try.underlying29 hi_32 hz0_32 hz1_32 hz2_32 rfl (by decide) _ _ _ rfl h2t_55i.out ⟨wr1.heap.size, 0, none⟩ 1 1 [.slice Aids_9l1 ids_9l1.length cids_9l1] rfl rfl (news_new hw_t_54) (one_cells rfl) (by unfold maxLen; omega) (by omega) hst_55 ?_; intro vt_55 wt_55 ot_55 gt_55 ut_55 yt_55; clear ut_55; obtain ⟨qt_55, ct_55, Bt_55, rfl, pt_55, dt_55, rt_55⟩ := Go.Proofs.Ytpaakpbbahbhcaa.GoN.nest_app hht_55.out h1t_55i.out h4t_55i.out h3t_55i.out h5t_55i.out Oids_9l1.out Dids_9l1_out_6l0.out gt_55 ot_55 yt_55; have Pt_55 := Lib.hid pt_55; have Ut_55 := Lib.hid dt_55; have Rt_55 := Lib.hid rt_55; have Gt_55 := Lib.hid gt_55; clear ot_55 gt_55 pt_55 yt_55 dt_55 rt_55; refine stop_in ?_)
                refine stop_out ?_
                have HBwt_55 := Lib.hid (HBw_t_54.out.grown Gt_55.out hst_55 (fun q hq => (h2t_55i.out.lt q hq).1))
                clear hst_55
                have Dt_55_t_23 : Hid (∀ y_ ∈ Bt_55, Apart (some ⟨qt_26, 0, none⟩) y_) := Lib.hid (Go.Proofs.Ytpaakpbbahbhcaa.GoN.apart_push Dt_23_out_6l0.out (Apart.symm Dids_9l1_t_23.out) (fun a_ ha_ => (own_lt Ot_23.out a_ ha_).2) Ut_55.out)
                replace Ot_23 := Lib.hid (own_other Ot_23.out Gt_55.out (Apart.symm (Dt_23_out_6l0.out _ (Go.Proofs.Ytpaakpbbahbhcaa.GoN.nest_head Oout_6l0.out))))
                replace Oids_9l1 := Lib.hid (own_other Oids_9l1.out Gt_55.out (Apart.symm (Dids_9l1_out_6l0.out _ (Go.Proofs.Ytpaakpbbahbhcaa.GoN.nest_head Oout_6l0.out))))
                clear Oout_6l0 Gt_55 h1t_55i h2t_55i h3t_55i h4t_55i h5t_55i
                clear Oids_9l1
                have mmt_55 := Lib.hid Ut_55.out.2.1
                clear Ut_55
                replace H := app_hid H
                go_wp2_with fail
                go_roundg m0
                case measure => omega
                case rel => exact ⟨k0 + 1, _, _, _, _, by omega, by go_num, rfl, H, HBwt_55, Pt_55⟩
              | succ m1 =>
                have hlt1 : k1 < t_23.length := by omega
                have hc1 : decide ((k1 : Int) < ((t_23.length : Nat) : Int)) = true := by simp; omega
                replace H := cnt_succ H
                unfold l1 at H
                replace H := let_hid H
                obtain ⟨_, rfl, H⟩ := H
                replace H := idx_hid H
                obtain ⟨nt_41, yt_41, et_41, lt_41, gt_41, H⟩ := H
                obtain rfl : k1 = nt_41 := by omega
                clear et_41
                obtain ⟨ab_t_41, ao_t_41, zt_41, At_41, z_t_41, ct_41_0⟩ := Go.Proofs.Ytpaakpbbahbhcaa.HelpInt.Ints.at_ (own_cells Ot_23.out) (k := k1) (by omega)
                obtain rfl := Option.some.inj (gt_41.out.symm.trans z_t_41)
                simp only [Option.some.injEq, Addr.mk.injEq] at At_41
                obtain ⟨rfl, rfl, _⟩ := At_41
                clear z_t_41
                simp only [Nat.zero_add] at ct_41_0
                have b0t_41 : (0 : Int) ≤ (k1 : Int) := by omega
                have b1t_41 : (k1 : Int) < ((t_23.length : Nat) : Int) := by omega
                have b2t_41 : ((k1 : Int)).toNat = k1 := by omega
                replace H := idx_hid H
                obtain ⟨nt_43, yt_43, et_43, lt_43, gt_43, H⟩ := H
                subst et_43
                obtain ⟨t_43_id, t_43_year, t_43_town, t_43_traits⟩ := yt_43
                replace H := unSighting_hid H
                obtain ⟨bbt_43, oot_43, zt_43, Art_43, crt_43, eAt_43, zzt_43, hKt_43, hrt_43, hqt_43, hnt_43⟩ := Go.Proofs.Ytpaakpbbahbhcaa.GoV.nest_at M0.out (k := nt_43) lt_43
                obtain rfl := Option.some.inj (gt_43.out.symm.trans zzt_43)
                clear zzt_43
                subst eAt_43
                have hct_43_0 : w.cell? ⟨bbt_43, oot_43 + nt_43 * 4, none⟩ = some (.int .i64 t_43_id) := hKt_43 0 _ rfl
                have hct_43_1 : w.cell? ⟨bbt_43, oot_43 + nt_43 * 4 + 1, none⟩ = some (.int .i64 t_43_year) := hKt_43 1 _ rfl
                have hct_43_2 : w.cell? ⟨bbt_43, oot_43 + nt_43 * 4 + 2, none⟩ = some (.string t_43_town) := hKt_43 2 _ rfl
                have hct_43_3 : w.cell? ⟨bbt_43, oot_43 + nt_43 * 4 + 3, none⟩ = some (.slice Art_43 t_43_traits.length crt_43) := hKt_43 3 _ rfl
                clear hKt_43
                have ltt_43 := cell_lt hct_43_0
                replace hct_43_0 := cell_below HBwr1.out hct_43_0
                replace hct_43_1 := cell_below HBwr1.out hct_43_1
                replace hct_43_2 := cell_below HBwr1.out hct_43_2
                replace hct_43_3 := cell_below HBwr1.out hct_43_3
                have Mrt_43 := Lib.hid hrt_43
                have Qrt_43 := Lib.hid hqt_43
                have Nrt_43 := Lib.hid hnt_43
                clear hrt_43 hqt_43 hnt_43
                have b0t_43 : (0 : Int) ≤ (nt_43 : Int) := by omega
                have b1t_43 : (nt_43 : Int) < ((list.length : Nat) : Int) := by omega
                have b2t_43 : ((nt_43 : Int)).toNat = nt_43 := by omega
                obtain ⟨w_t_46, hw_t_46⟩ : ∃ x, wr1.alloc (.cells #[.int .i64 t_43_id] 3) = x := ⟨_, rfl⟩
                have bw_t_46 : Below wr1.heap.size wr1 w_t_46 := by rw [← hw_t_46]; exact (Below.refl _ _).alloc (Nat.le_refl _) _
                have HBw_t_46 := Lib.hid (Below.step HBwr1.out bw_t_46)
                have ct_41_0__202 := cell_below bw_t_46 ct_41_0
                have hct_43_0__203 := cell_below bw_t_46 hct_43_0
                have hct_43_1__204 := cell_below bw_t_46 hct_43_1
                have hct_43_2__205 := cell_below bw_t_46 hct_43_2
                have hct_43_3__206 := cell_below bw_t_46 hct_43_3
                replace Oout_6l0 := Lib.hid (Go.Proofs.Ytpaakpbbahbhcaa.GoN.nest_below Oout_6l0.out bw_t_46)
                replace Ot_23 := Lib.hid (own_below Ot_23.out bw_t_46)
                replace Oids_9l1 := Lib.hid (own_below Oids_9l1.out bw_t_46)
                clear bw_t_46
                replace H := guard_hid H
                obtain ⟨hlt_47, H⟩ := H
                replace H := let_hid H
                obtain ⟨t_47, ht_47, H⟩ := H
                have hht_47 := Lib.hid ht_47
                clear ht_47
                have hst_47 := HBw_t_46.out.size
                go_wp2_with (at_builtin; refine wpList_append_own_at _ rfl _ _ 32 rfl w.heap.size 3 i0_3 (.int .i64 0) 1 8 Try.underlying32 hi_3 hz0_3 hz1_3 hz2_3 rfl (by decide) _ _ _ rfl Oids_9l1.out ⟨wr1.heap.size, 0, none⟩ 1 1 [.int .i64 t_43_id] rfl rfl (news_new hw_t_46) (one_cells rfl) (by unfold maxLen; omega) (by omega) hst_47 ?_; intro vt_47 wt_47 ot_47 gt_47 zt_47 yt_47; clear zt_47; obtain ⟨qt_47, ct_47, rfl, pt_47⟩ := own_push hht_47.out (Go.Proofs.Ytpaakpbbahbhcaa.HelpInt.iv_snoc _ _) rfl ot_47; have Pt_47 := Lib.hid pt_47; have Yt_47 := Lib.hid yt_47; have Gt_47 := Lib.hid gt_47; clear ot_47 gt_47 pt_47 yt_47; refine stop_in ?_)
                refine stop_out ?_
                have HBwt_47 := Lib.hid (HBw_t_46.out.grown Gt_47.out hst_47 (fun q hq => (Oids_9l1.out.lt q hq).1))
                clear hst_47
                have Dt_47_out_6l0 : Hid (∀ y_ ∈ Bout_6l0, Apart (some ⟨qt_47, 0, none⟩) y_) := Lib.hid (fun y_ hy_ => (apart_app (Dids_9l1_out_6l0.out y_ hy_) (fun a_ ha_ => (Go.Proofs.Ytpaakpbbahbhcaa.GoN.nest_lt Oout_6l0.out y_ hy_ a_ ha_).2) Yt_47.out))
                have Dt_47_t_23 : Hid (Apart (some ⟨qt_47, 0, none⟩) _) := Lib.hid (apart_app Dids_9l1_t_23.out (fun a_ ha_ => (own_lt Ot_23.out a_ ha_).2) Yt_47.out)
                replace ct_41_0__202 := cell_other ct_41_0__202 Gt_47.out Dids_9l1_t_23.out
                replace hct_43_0__203 := cell_other hct_43_0__203 Gt_47.out (apart_old Oids_9l1.out ltt_43)
                replace hct_43_1__204 := cell_other hct_43_1__204 Gt_47.out (apart_old Oids_9l1.out ltt_43)
                replace hct_43_2__205 := cell_other hct_43_2__205 Gt_47.out (apart_old Oids_9l1.out ltt_43)
                replace hct_43_3__206 := cell_other hct_43_3__206 Gt_47.out (apart_old Oids_9l1.out ltt_43)
                replace Oout_6l0 := Lib.hid (Go.Proofs.Ytpaakpbbahbhcaa.GoN.nest_other Oout_6l0.out Gt_47.out Dids_9l1_out_6l0.out)
                replace Ot_23 := Lib.hid (own_other Ot_23.out Gt_47.out Dids_9l1_t_23.out)
                clear ct_41_0 hct_43_0 hct_43_1 hct_43_2 hct_43_3
                clear Oids_9l1 Yt_47 Gt_47
                replace H := app_hid H
                go_wp2_with fail
                go_roundg m1
                case measure => omega
                case rel => exact ⟨k1 + 1, _, _, _, by omega, by go_num, rfl, H, HBwt_47, Pt_47, Oout_6l0, Ot_23, Lib.hid Dt_47_out_6l0.out, Lib.hid Dt_47_t_23.out⟩
          | true =>
            replace H := ite_t H
            replace H := app_hid H
            go_wp2_with fail
            go_roundg m0
            case measure => omega
            case rel => exact ⟨k0 + 1, _, _, _, _, by omega, by go_num, rfl, H, HBwt_23, Oout_6l0⟩
end Go.Proofs.Ytpaakpbbahbhcaa.GsCoversSeen

/- Plain words on the arrays of 10 numbers: the cells, a list of them as cells one after the other. No condition. -/
namespace Go.Proofs.Ytpaakpbbahbhcaa.PIntA10
set_option linter.unusedVariables false
set_option maxRecDepth 100000

structure IntA10 where
  x0 : Int
  x1 : Int
  x2 : Int
  x3 : Int
  x4 : Int
  x5 : Int
  x6 : Int
  x7 : Int
  x8 : Int
  x9 : Int
def IntA10.cells (s : IntA10) : List Value := [.int .i64 s.x0, .int .i64 s.x1, .int .i64 s.x2, .int .i64 s.x3, .int .i64 s.x4, .int .i64 s.x5, .int .i64 s.x6, .int .i64 s.x7, .int .i64 s.x8, .int .i64 s.x9]
def IntA10.val (s : IntA10) : Value := .agg #[.int .i64 s.x0, .int .i64 s.x1, .int .i64 s.x2, .int .i64 s.x3, .int .i64 s.x4, .int .i64 s.x5, .int .i64 s.x6, .int .i64 s.x7, .int .i64 s.x8, .int .i64 s.x9]
def IntA10.list (s : IntA10) : List Int := [s.x0, s.x1, s.x2, s.x3, s.x4, s.x5, s.x6, s.x7, s.x8, s.x9]
/-- the array with v at j -/
def IntA10.put (s : IntA10) (j v : Int) : IntA10 := if j = 0 then ⟨v, s.x1, s.x2, s.x3, s.x4, s.x5, s.x6, s.x7, s.x8, s.x9⟩ else if j = 1 then ⟨s.x0, v, s.x2, s.x3, s.x4, s.x5, s.x6, s.x7, s.x8, s.x9⟩ else if j = 2 then ⟨s.x0, s.x1, v, s.x3, s.x4, s.x5, s.x6, s.x7, s.x8, s.x9⟩ else if j = 3 then ⟨s.x0, s.x1, s.x2, v, s.x4, s.x5, s.x6, s.x7, s.x8, s.x9⟩ else if j = 4 then ⟨s.x0, s.x1, s.x2, s.x3, v, s.x5, s.x6, s.x7, s.x8, s.x9⟩ else if j = 5 then ⟨s.x0, s.x1, s.x2, s.x3, s.x4, v, s.x6, s.x7, s.x8, s.x9⟩ else if j = 6 then ⟨s.x0, s.x1, s.x2, s.x3, s.x4, s.x5, v, s.x7, s.x8, s.x9⟩ else if j = 7 then ⟨s.x0, s.x1, s.x2, s.x3, s.x4, s.x5, s.x6, v, s.x8, s.x9⟩ else if j = 8 then ⟨s.x0, s.x1, s.x2, s.x3, s.x4, s.x5, s.x6, s.x7, v, s.x9⟩ else ⟨s.x0, s.x1, s.x2, s.x3, s.x4, s.x5, s.x6, s.x7, s.x8, v⟩
/-- the cells of a list of arrays, one after the other -/
def flat (l : List IntA10) : List Value := l.flatMap IntA10.cells
theorem flat_nil : flat [] = [] := rfl
theorem flat_cons (s : IntA10) (l : List IntA10) : flat (s :: l) = s.cells ++ flat l := by simp [flat]
theorem flat_len (l : List IntA10) : (flat l).length = l.length * 10 := by
  induction l with
  | nil => rfl
  | cons s l ih => rw [flat_cons, List.length_append, ih]; simp [IntA10.cells]; omega
theorem flat_at : ∀ (l : List IntA10) (k : Nat) (s : IntA10), l[k]? = some s → ∀ j, j < 10 → (flat l)[k * 10 + j]? = s.cells[j]?
  | [], k, s, h, _, _ => by simp at h
  | r :: l, 0, s, h, j, hj => by
    obtain rfl : r = s := by simpa using h
    rw [flat_cons, List.getElem?_append_left (by simp [IntA10.cells]; omega)]; simp
  | r :: l, k + 1, s, h, j, hj => by
    rw [flat_cons, List.getElem?_append_right (by simp [IntA10.cells]; omega), show (k + 1) * 10 + j - r.cells.length = k * 10 + j by simp [IntA10.cells]; omega]
    exact flat_at l k s (by simpa using h) j hj
end Go.Proofs.Ytpaakpbbahbhcaa.PIntA10

/- A record IntA10 opened into its fields. No condition. -/
namespace Go.Proofs.Ytpaakpbbahbhcaa.GoP
set_option linter.unusedVariables false
open Go.RowKit
def unIntA10 {ρ : Type} (s : Go.Proofs.Ytpaakpbbahbhcaa.PIntA10.IntA10) (f : Int → Int → Int → Int → Int → Int → Int → Int → Int → Int → Option ρ) : Option ρ := f s.x0 s.x1 s.x2 s.x3 s.x4 s.x5 s.x6 s.x7 s.x8 s.x9
theorem unIntA10_hid {ρ : Type} {x0 : Int} {x1 : Int} {x2 : Int} {x3 : Int} {x4 : Int} {x5 : Int} {x6 : Int} {x7 : Int} {x8 : Int} {x9 : Int} {f : Int → Int → Int → Int → Int → Int → Int → Int → Int → Int → Option ρ} {r : ρ} (H : Hid (unIntA10 ⟨x0, x1, x2, x3, x4, x5, x6, x7, x8, x9⟩ f = some r)) : Hid (f x0 x1 x2 x3 x4 x5 x6 x7 x8 x9 = some r) := H
end Go.Proofs.Ytpaakpbbahbhcaa.GoP

/- Words on arrays that are variables, and on jumps back to a label. No condition but those of each theorem. -/
namespace Go.Proofs.Ytpaakpbbahbhcaa.GoA
set_option linter.unusedVariables false
open Go.RowKit
open Go.Proofs.Ytpaakpbbahbhcaa.HelpInt

/-- the number at a place of an array's list -/
def nth (l : List Int) (j : Nat) : Int := l.getD j 0
theorem row_at {w : World} {b T n c g : Nat} {l : List Int} (h : w.ownsRow b T 1 (.slice (some ⟨g, 0, none⟩) n c) n (iv l)) (hl : l.length = n) (j : Nat) (hj : j < n) : w.cell? ⟨g, j, none⟩ = some (.int .i64 (nth l j)) := by
  unfold nth
  have hc := h.cells rfl j (.int .i64 (l.getD j 0)) (by
    rw [iv_at, List.getD_eq_getElem?_getD, List.getElem?_eq_getElem (show j < l.length by omega)]; rfl)
  rw [add_none] at hc
  simpa using hc

/-- what holds at a jump to a label: a relation that bears a number, which each pass from the label to the next jump lowers -/
def Jumps (P : Program) (rest : Code) (l : Nat) (Q : Exit → Act → World → Prop) (a : Act) (w : World) (m : Nat) : Prop :=
  ∃ J : Nat → Act → World → Prop, J m a w ∧ ∀ m a w, J m a w → rest.wp P (Exit.jump l (Handed J m) Q) a w

/-- the frame with the slots that are marked put to new values -/
def over (u : Nat → Value) : List Bool → Nat → List Value → List Value
  | true :: bs, i, _ :: l => u i :: over u bs (i + 1) l
  | false :: bs, i, v :: l => v :: over u bs (i + 1) l
  | [], _, l => l
  | _ :: _, _, [] => []
end Go.Proofs.Ytpaakpbbahbhcaa.GoA

