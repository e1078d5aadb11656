/- loop.example/g01062/impl.SameGauges as a plain function, and the contract of the program's: where the plain one has an answer, the program has it. Conditions: slices read as lists. -/
import Derived.Test.YtdgbigkcophjoaaChecked
import Derived.Test.YtdgbigkcophjoaaGoM
import Derived.Test.YtdgbigkcophjoaaGoRComb
import Derived.Test.YtdgbigkcophjoaaGoN
import Derived.Test.YtdgbigkcophjoaaHelpInt
import Derived.Test.YtdgbigkcophjoaaOComb
import Derived.Test.YtdgbigkcophjoaaGiAreCombs
import Derived.Test.YtdgbigkcophjoaaGxSlicesContainsFuncLoopExampleG01062ImplCombLoopExampleG01062ImplCombiSameGauges1
import Derived.Test.YtdgbigkcophjoaaGiKeysWhereCombIntiIdOfCombiSameGauges1
import Derived.WalkKit
import Derived.WalkSpells
import Derived.WalkLawsBesides
import Derived.BigQuiet
import Derived.OwnWalk
import Derived.Deep.LoopGhost
import Derived.Deep.QuietTactic
import Derived.IntWalk
import Derived.Lib.QuietBelow
namespace Go.Proofs.Ytdgbigkcophjoaa.GiSameGauges
set_option linter.unusedVariables false
set_option linter.unusedSimpArgs false
open Go.RowKit
open Go.Proofs.Ytdgbigkcophjoaa.Rowed Go.Proofs.Ytdgbigkcophjoaa.Turn Go.Proofs.Ytdgbigkcophjoaa.Aid Go.Proofs.Ytdgbigkcophjoaa.GoP Go.Proofs.Ytdgbigkcophjoaa.GoM

def l0 (list : (List Go.Proofs.Ytdgbigkcophjoaa.PComb.Comb)) (k0 : Nat) (s : (List (List Int))) (nx0 bk0 : (List (List Int)) → Option ((List (List Int)) × Bool)) : Option ((List (List Int)) × Bool) :=
  letK s fun groups_4l0 =>
  Option.bind (idx list (k0 : Int)) fun (yt_15 : Go.Proofs.Ytdgbigkcophjoaa.PComb.Comb) =>
  unComb yt_15 fun (t_15_id : Int) (t_15_wide : Int) (t_15_high : Int) (t_15_line : Bool) =>
  guardK ((0 : Int) ≤ (k0 : Int) ∧ ((k0 : Int) : Int) ≤ (list.length : Int)) <|
  letK (List.take (Int.toNat (k0 : Int)) list) fun (t_24 : (List Go.Proofs.Ytdgbigkcophjoaa.PComb.Comb)) =>
  Option.bind (Go.Proofs.Ytdgbigkcophjoaa.GxSlicesContainsFuncLoopExampleG01062ImplCombLoopExampleG01062ImplCombiSameGauges1.P t_24 t_15_id t_15_wide t_15_high t_15_line) fun (t_26 : Bool) =>
  letK (!t_26) fun (t_27 : Bool) =>
  iteK t_27
  (Option.bind (Go.Proofs.Ytdgbigkcophjoaa.GiKeysWhereCombIntiIdOfCombiSameGauges1.P list t_15_id t_15_wide t_15_high t_15_line) fun (t_31 : (List Int)) =>
  guardK (groups_4l0.length ≤ 1099511627776) <|
  letK (groups_4l0 ++ [t_31]) fun (t_33 : (List (List Int))) =>
  appK nx0 (t_33))
  (appK nx0 (groups_4l0))

def e0  (s : (List (List Int))) : Option ((List (List Int)) × Bool) :=
  letK s fun groups_4l0 =>
  some (groups_4l0, true)

def P (list : (List Go.Proofs.Ytdgbigkcophjoaa.PComb.Comb)) : Option ((List (List Int)) × Bool) :=
  Option.bind (Go.Proofs.Ytdgbigkcophjoaa.GiAreCombs.P list) fun (t_3 : Bool) =>
  letK (!t_3) fun (t_4 : Bool) =>
  iteK t_4
  (some (([] : List (List Int)), false))
  (cntK (l0 list) (list.length) 0 (([] : List (List Int))) (e0 ))

set_option maxRecDepth 100000 in
set_option maxHeartbeats 2000000 in
theorem C (list : (List Go.Proofs.Ytdgbigkcophjoaa.PComb.Comb)) (A0 : Option Addr) (c0 : Nat)  (w : World) (M0 : Hid (Cells w 4 A0 list.length (Go.Proofs.Ytdgbigkcophjoaa.PComb.flat list))) (N0 : Hid (list.length ≤ 9223372036854775807)) (Q0 : Hid (Room A0 list.length c0))  {r0 : (List (List Int))} {r1 : Bool} (H : Hid (P list = some (r0, r1))) :
    Calls Try.prog 57 #[.slice A0 list.length c0] w (fun e w' => ∃ A_r0 c_r0, e = .returned (.tuple #[.slice A_r0 r0.length c_r0, .bool r1]) ∧ (∃ B_, Go.Proofs.Ytdgbigkcophjoaa.GoN.OwnNest w' (w.heap.size) 29 3 1 Go.Proofs.Ytdgbigkcophjoaa.HelpInt.iv A_r0 c_r0 r0 B_) ∧ Below w.heap.size w w') := by
  have HB := Lib.hid (Below.refl w.heap.size w)
  unfold P at H
  have N0o := N0.out
  obtain ⟨i0_101, hi_101, hz0_101, hz1_101, hz2_101⟩ := Aid.info_parts (P := Try.prog) (T := 101) (z := .agg #[.int .i64 0, .int .i64 0, .int .i64 0, .bool false]) (s := 4) (b := 32) (by kernel_rfl)
  obtain ⟨i0_29, hi_29, hz0_29, hz1_29, hz2_29⟩ := Aid.info_parts (P := Try.prog) (T := 29) (z := .slice none 0 0) (s := 1) (b := 24) (by kernel_rfl)
  go_enter Try.func57, Try.ntmps57
  replace H := bind_hid H
  obtain ⟨t_3, qt_3, H⟩ := H
  go_wp2_with fail
  go_at_call 49
  refine (Go.Proofs.Ytdgbigkcophjoaa.GiAreCombs.C (list) A0 c0 _   (Lib.hid (Cells.below M0.out HB.out)) N0 qt_3).mono ?_
  rintro e_t_3 wt_3 ⟨rfl, bt_3⟩
  have HBwt_3 := Lib.hid (Below.step HB.out bt_3)
  clear bt_3
  cases t_3 with
  | false =>
    replace H := let_hid H
    obtain ⟨t_4, ht_4, H⟩ := H
    obtain rfl : t_4 = true := ht_4.symm
    replace H := ite_t H
    obtain ⟨w_t_5, hw_t_5⟩ : ∃ x, wt_3.alloc (.cells #[] 29) = x := ⟨_, rfl⟩
    have bw_t_5 : Below wt_3.heap.size wt_3 w_t_5 := by rw [← hw_t_5]; exact (Below.refl _ _).alloc (Nat.le_refl _) _
    have Ot_5 : Hid (Go.Proofs.Ytdgbigkcophjoaa.GoN.OwnNest w_t_5 (w.heap.size) 29 3 1 Go.Proofs.Ytdgbigkcophjoaa.HelpInt.iv (some ⟨wt_3.heap.size, 0, none⟩) 0 ([] : List (List Int)) [some ⟨wt_3.heap.size, 0, none⟩]) := Lib.hid (by rw [← hw_t_5]; exact Go.Proofs.Ytdgbigkcophjoaa.GoN.nest_empty HBwt_3.out.size)
    have HBw_t_5 := Lib.hid (Below.step HBwt_3.out bw_t_5)
    clear bw_t_5
    cases ret_hid H
    go_wp2_with fail
    go_ret2
    exact ⟨(some ⟨wt_3.heap.size, 0, none⟩), 0, rfl, ⟨_, Ot_5.out⟩, HBw_t_5.out⟩
  | true =>
    replace H := let_hid H
    obtain ⟨t_4, ht_4, H⟩ := H
    obtain rfl : t_4 = false := ht_4.symm
    replace H := ite_f H
    obtain ⟨w_t_8, hw_t_8⟩ : ∃ x, wt_3.alloc (.cells #[] 29) = x := ⟨_, rfl⟩
    have bw_t_8 : Below wt_3.heap.size wt_3 w_t_8 := by rw [← hw_t_8]; exact (Below.refl _ _).alloc (Nat.le_refl _) _
    have Ot_8 : Hid (Go.Proofs.Ytdgbigkcophjoaa.GoN.OwnNest w_t_8 (w.heap.size) 29 3 1 Go.Proofs.Ytdgbigkcophjoaa.HelpInt.iv (some ⟨wt_3.heap.size, 0, none⟩) 0 ([] : List (List Int)) [some ⟨wt_3.heap.size, 0, none⟩]) := Lib.hid (by rw [← hw_t_8]; exact Go.Proofs.Ytdgbigkcophjoaa.GoN.nest_empty HBwt_3.out.size)
    have HBw_t_8 := Lib.hid (Below.step HBwt_3.out bw_t_8)
    clear bw_t_8
    go_wp2_with fail
    go_loopg [15, 4] (list.length) (fun m_ v15_ v4_ wr => ∃ (k0 : Nat) (groups_4l0 : (List (List Int))) (Agroups_4l0 : Option Addr) (cgroups_4l0 : Nat) (Bgroups_4l0 : List (Option Addr)), k0 + m_ = list.length ∧ v15_ = .int .i64 (k0 : Int) ∧ v4_ = .slice Agroups_4l0 groups_4l0.length cgroups_4l0 ∧ Hid (cntK (l0 list) m_ k0 (groups_4l0) (e0 ) = some (r0, r1)) ∧ Hid (Below w.heap.size w wr) ∧ Hid (Go.Proofs.Ytdgbigkcophjoaa.GoN.OwnNest wr (w.heap.size) 29 3 1 Go.Proofs.Ytdgbigkcophjoaa.HelpInt.iv Agroups_4l0 cgroups_4l0 groups_4l0 Bgroups_4l0))
    case atStart => exact ⟨0, _, _, _, _, by omega, rfl, rfl, H, HBw_t_8, Ot_8⟩
    case round =>
      obtain ⟨k0, groups_4l0, Agroups_4l0, cgroups_4l0, Bgroups_4l0, hkm0, rfl, rfl, H, HBwr0, Ogroups_4l0⟩ := hrel
      rename World => wr0
      cases gk with
      | zero =>
        obtain rfl : k0 = list.length := by omega
        have hc0 : decide (((list.length : Nat) : Int) < ((list.length : Nat) : Int)) = false := by simp
        replace H := cnt_zero H
        unfold e0 at H
        replace H := let_hid H
        obtain ⟨_, rfl, H⟩ := H
        cases ret_hid H
        go_wp2_with fail
        go_ret2
        exact ⟨Agroups_4l0, cgroups_4l0, rfl, ⟨_, Ogroups_4l0.out⟩, HBwr0.out⟩
      | succ m0 =>
        have hlt0 : k0 < list.length := by omega
        have hc0 : decide ((k0 : Int) < ((list.length : Nat) : Int)) = true := by simp; omega
        replace H := cnt_succ H
        unfold l0 at H
        replace H := let_hid H
        obtain ⟨_, rfl, H⟩ := H
        replace H := idx_hid H
        obtain ⟨nt_15, yt_15, et_15, lt_15, gt_15, H⟩ := H
        obtain rfl : k0 = nt_15 := by omega
        clear et_15
        obtain ⟨t_15_id, t_15_wide, t_15_high, t_15_line⟩ := yt_15
        replace H := unComb_hid H
        obtain ⟨ab_t_15, ao_t_15, zt_15, At_15, z_t_15, ct_15_0, ct_15_1, ct_15_2, ct_15_3⟩ := Go.Proofs.Ytdgbigkcophjoaa.OComb.at_ M0.out lt_15
        obtain rfl := Option.some.inj (gt_15.out.symm.trans z_t_15)
        subst At_15
        have ltt_15 := cell_lt ct_15_0
        replace ct_15_0 := cell_below HBwr0.out ct_15_0
        replace ct_15_1 := cell_below HBwr0.out ct_15_1
        replace ct_15_2 := cell_below HBwr0.out ct_15_2
        replace ct_15_3 := cell_below HBwr0.out ct_15_3
        clear z_t_15
        have b0t_15 : (0 : Int) ≤ (k0 : Int) := by omega
        have b1t_15 : (k0 : Int) < ((list.length : Nat) : Int) := by omega
        have b2t_15 : ((k0 : Int)).toNat = k0 := by omega
        obtain ⟨w_x_17, hw_x_17⟩ : ∃ x, wr0.alloc (.cells #[.int .i64 t_15_id, .int .i64 t_15_wide, .int .i64 t_15_high, .bool t_15_line] 101) = x := ⟨_, rfl⟩
        have bw_x_17 : Below wr0.heap.size wr0 w_x_17 := by rw [← hw_x_17]; exact (Below.refl _ _).alloc (Nat.le_refl _) _
        have Dx_17_groups_4l0 := Lib.hid (Go.Proofs.Ytdgbigkcophjoaa.GoN.nest_fresh Ogroups_4l0.out)
        have HBw_x_17 := Lib.hid (Below.step HBwr0.out bw_x_17)
        have ct_15_0__572 := cell_below bw_x_17 ct_15_0
        have ct_15_1__573 := cell_below bw_x_17 ct_15_1
        have ct_15_2__574 := cell_below bw_x_17 ct_15_2
        have ct_15_3__575 := cell_below bw_x_17 ct_15_3
        replace Ogroups_4l0 := Lib.hid (Go.Proofs.Ytdgbigkcophjoaa.GoN.nest_below Ogroups_4l0.out bw_x_17)
        clear bw_x_17
        have kx_17_0 : w_x_17.cell? ⟨wr0.heap.size, 0, none⟩ = some (.int .i64 t_15_id) := by rw [← hw_x_17]; exact box_new _ _ _ 0 _ rfl
        have kx_17_1 : w_x_17.cell? ⟨wr0.heap.size, 1, none⟩ = some (.int .i64 t_15_wide) := by rw [← hw_x_17]; exact box_new _ _ _ 1 _ rfl
        have kx_17_2 : w_x_17.cell? ⟨wr0.heap.size, 2, none⟩ = some (.int .i64 t_15_high) := by rw [← hw_x_17]; exact box_new _ _ _ 2 _ rfl
        have kx_17_3 : w_x_17.cell? ⟨wr0.heap.size, 3, none⟩ = some (.bool t_15_line) := by rw [← hw_x_17]; exact box_new _ _ _ 3 _ rfl
        replace H := guard_hid H
        obtain ⟨hl_t_24, H⟩ := H
        replace H := let_hid H
        obtain ⟨t_24, ht_24, H⟩ := H
        have dt_24 : ((Go.Proofs.Ytdgbigkcophjoaa.PComb.flat list)).take (Int.toNat (k0 : Int) * 4) = (Go.Proofs.Ytdgbigkcophjoaa.PComb.flat t_24) := by
          rw [← ht_24]
          exact flat_take Go.Proofs.Ytdgbigkcophjoaa.PComb.Comb.cells 4 (fun _ => rfl) _ _
        have nt_24 : Int.toNat (k0 : Int) = t_24.length := by rw [← ht_24, List.length_take]; omega
        obtain ⟨rt_24, Mt_24, Qt_24⟩ := slice_headB (P := Try.prog) (t := 60) (e := 101) (k := .i64) (by kernel_rfl) (by kernel_rfl) hi_101 hz1_101 M0.out Q0.out hl_t_24 nt_24 dt_24
        have Nt_24 : Hid (t_24.length ≤ 9223372036854775807) := Lib.hid (by have := N0.out; omega)
        replace Mt_24 := Lib.hid Mt_24
        replace Qt_24 := Lib.hid Qt_24
        clear dt_24 nt_24 hl_t_24
        have hht_24 := Lib.hid ht_24
        clear ht_24
        replace H := bind_hid H
        obtain ⟨t_26, qt_26, H⟩ := H
        go_wp2_with fail
        clear ct_15_0 ct_15_1 ct_15_2 ct_15_3
        go_at_call 104
        refine (Go.Proofs.Ytdgbigkcophjoaa.GxSlicesContainsFuncLoopExampleG01062ImplCombLoopExampleG01062ImplCombiSameGauges1.C (t_24) (t_15_id) (t_15_wide) (t_15_high) (t_15_line) (some ⟨ab_t_15, ao_t_15, none⟩) c0 (wr0.heap.size) _   (Lib.hid (Cells.below Mt_24.out HBw_x_17.out)) Nt_24 (Lib.hid kx_17_0) (Lib.hid kx_17_1) (Lib.hid kx_17_2) (Lib.hid kx_17_3) qt_26).mono ?_
        rintro e_t_26 wt_26 ⟨rfl, bt_26⟩
        have HBwt_26 := Lib.hid (Below.step HBw_x_17.out bt_26)
        replace ct_15_0__572 := cell_below bt_26 ct_15_0__572
        replace ct_15_1__573 := cell_below bt_26 ct_15_1__573
        replace ct_15_2__574 := cell_below bt_26 ct_15_2__574
        replace ct_15_3__575 := cell_below bt_26 ct_15_3__575
        replace kx_17_0 := cell_below bt_26 kx_17_0
        replace kx_17_1 := cell_below bt_26 kx_17_1
        replace kx_17_2 := cell_below bt_26 kx_17_2
        replace kx_17_3 := cell_below bt_26 kx_17_3
        replace Ogroups_4l0 := Lib.hid (Go.Proofs.Ytdgbigkcophjoaa.GoN.nest_below Ogroups_4l0.out bt_26)
        clear bt_26
        cases t_26 with
        | false =>
          replace H := let_hid H
          obtain ⟨t_27, ht_27, H⟩ := H
          obtain rfl : t_27 = true := ht_27.symm
          replace H := ite_t H
          replace H := bind_hid H
          obtain ⟨t_31, qt_31, H⟩ := H
          go_wp2_with fail
          go_at_call 99
          refine (Go.Proofs.Ytdgbigkcophjoaa.GiKeysWhereCombIntiIdOfCombiSameGauges1.C (list) (t_15_id) (t_15_wide) (t_15_high) (t_15_line) (some ⟨ab_t_15, ao_t_15, none⟩) c0 (wr0.heap.size) _   (Lib.hid (Cells.below M0.out HBwt_26.out)) N0 (Lib.hid kx_17_0) (Lib.hid kx_17_1) (Lib.hid kx_17_2) (Lib.hid kx_17_3) qt_31).mono ?_
          rintro e_t_31 wt_31 ⟨At_31, ct_31, rfl, ot_31, bt_31⟩
          have Dt_31_groups_4l0 := Lib.hid (Go.Proofs.Ytdgbigkcophjoaa.GoN.nest_call ot_31 Ogroups_4l0.out)
          have Dt_31_x_17 := Lib.hid (apart_callbox ot_31 kx_17_0)
          have Ot_31 := Lib.hid (own_lower ot_31 HBwt_26.out.size)
          clear ot_31
          have HBwt_31 := Lib.hid (Below.step HBwt_26.out bt_31)
          replace ct_15_0__572 := cell_below bt_31 ct_15_0__572
          replace ct_15_1__573 := cell_below bt_31 ct_15_1__573
          replace ct_15_2__574 := cell_below bt_31 ct_15_2__574
          replace ct_15_3__575 := cell_below bt_31 ct_15_3__575
          replace kx_17_0 := cell_below bt_31 kx_17_0
          replace kx_17_1 := cell_below bt_31 kx_17_1
          replace kx_17_2 := cell_below bt_31 kx_17_2
          replace kx_17_3 := cell_below bt_31 kx_17_3
          replace Ogroups_4l0 := Lib.hid (Go.Proofs.Ytdgbigkcophjoaa.GoN.nest_below Ogroups_4l0.out bt_31)
          clear bt_31
          obtain ⟨w_t_32, hw_t_32⟩ : ∃ x, wt_31.alloc (.cells #[.slice At_31 t_31.length ct_31] 29) = x := ⟨_, rfl⟩
          have bw_t_32 : Below wt_31.heap.size wt_31 w_t_32 := by rw [← hw_t_32]; exact (Below.refl _ _).alloc (Nat.le_refl _) _
          have HBw_t_32 := Lib.hid (Below.step HBwt_31.out bw_t_32)
          have ct_15_0__576 := cell_below bw_t_32 ct_15_0__572
          have ct_15_1__577 := cell_below bw_t_32 ct_15_1__573
          have ct_15_2__578 := cell_below bw_t_32 ct_15_2__574
          have ct_15_3__579 := cell_below bw_t_32 ct_15_3__575
          have kx_17_0__580 := cell_below bw_t_32 kx_17_0
          have kx_17_1__581 := cell_below bw_t_32 kx_17_1
          have kx_17_2__582 := cell_below bw_t_32 kx_17_2
          have kx_17_3__583 := cell_below bw_t_32 kx_17_3
          replace Ogroups_4l0 := Lib.hid (Go.Proofs.Ytdgbigkcophjoaa.GoN.nest_below Ogroups_4l0.out bw_t_32)
          replace Ot_31 := Lib.hid (own_below Ot_31.out bw_t_32)
          clear bw_t_32
          replace H := guard_hid H
          obtain ⟨hlt_33, H⟩ := H
          replace H := let_hid H
          obtain ⟨t_33, ht_33, H⟩ := H
          have hht_33 := Lib.hid ht_33
          clear ht_33
          have hst_33 := HBw_t_32.out.size
          obtain ⟨zt_33, h1t_33, h2t_33, h3t_33, h4t_33, h5t_33⟩ := Ogroups_4l0.out
          have h1t_33i := Lib.hid h1t_33
          have h3t_33i := Lib.hid h3t_33
          have h4t_33i := Lib.hid h4t_33
          have h5t_33i := Lib.hid h5t_33
          clear h1t_33 h3t_33 h4t_33 h5t_33
          have h2t_33i := Lib.hid h2t_33
          clear h2t_33
          go_wp2_with (at_builtin; refine wpList_append_own_at _ rfl _ _ 67 rfl w.heap.size 29 i0_29 (.slice none 0 0) 1 24 Try.underlying67 hi_29 hz0_29 hz1_29 hz2_29 rfl (by decide) _ _ _ rfl h2t_33i.out ⟨wt_31.heap.size, 0, none⟩ 1 1 [.slice At_31 t_31.length ct_31] rfl rfl (news_new hw_t_32) (one_cells rfl) (by unfold maxLen; omega) (by omega) hst_33 ?_; intro vt_33 wt_33 ot_33 gt_33 ut_33 yt_33; clear ut_33; obtain ⟨qt_33, ct_33, Bt_33, rfl, pt_33, dt_33, rt_33⟩ := Go.Proofs.Ytdgbigkcophjoaa.GoN.nest_app hht_33.out h1t_33i.out h4t_33i.out h3t_33i.out h5t_33i.out Ot_31.out Dt_31_groups_4l0.out gt_33 ot_33 yt_33; have Pt_33 := Lib.hid pt_33; have Ut_33 := Lib.hid dt_33; have Rt_33 := Lib.hid rt_33; have Gt_33 := Lib.hid gt_33; clear ot_33 gt_33 pt_33 yt_33 dt_33 rt_33; refine stop_in ?_)
          refine stop_out ?_
          have HBwt_33 := Lib.hid (HBw_t_32.out.grown Gt_33.out hst_33 (fun q hq => (h2t_33i.out.lt q hq).1))
          clear hst_33
          have Dt_33_x_17 : Hid (∀ y_ ∈ Bt_33, Apart (some ⟨wr0.heap.size, 0, none⟩) y_) := Lib.hid (Go.Proofs.Ytdgbigkcophjoaa.GoN.apart_push Dx_17_groups_4l0.out (Apart.symm Dt_31_x_17.out) (fun a_ ha_ => by cases ha_; exact cell_lt kx_17_0__580) Ut_33.out)
          replace ct_15_0__576 := cell_other ct_15_0__576 Gt_33.out (apart_old h2t_33i.out ltt_15)
          replace ct_15_1__577 := cell_other ct_15_1__577 Gt_33.out (apart_old h2t_33i.out ltt_15)
          replace ct_15_2__578 := cell_other ct_15_2__578 Gt_33.out (apart_old h2t_33i.out ltt_15)
          replace ct_15_3__579 := cell_other ct_15_3__579 Gt_33.out (apart_old h2t_33i.out ltt_15)
          replace kx_17_0__580 := cell_other kx_17_0__580 Gt_33.out (Apart.symm (Dx_17_groups_4l0.out _ (Go.Proofs.Ytdgbigkcophjoaa.GoN.nest_head Ogroups_4l0.out)))
          replace kx_17_1__581 := cell_other kx_17_1__581 Gt_33.out (Apart.symm (Dx_17_groups_4l0.out _ (Go.Proofs.Ytdgbigkcophjoaa.GoN.nest_head Ogroups_4l0.out)))
          replace kx_17_2__582 := cell_other kx_17_2__582 Gt_33.out (Apart.symm (Dx_17_groups_4l0.out _ (Go.Proofs.Ytdgbigkcophjoaa.GoN.nest_head Ogroups_4l0.out)))
          replace kx_17_3__583 := cell_other kx_17_3__583 Gt_33.out (Apart.symm (Dx_17_groups_4l0.out _ (Go.Proofs.Ytdgbigkcophjoaa.GoN.nest_head Ogroups_4l0.out)))
          replace Ot_31 := Lib.hid (own_other Ot_31.out Gt_33.out (Apart.symm (Dt_31_groups_4l0.out _ (Go.Proofs.Ytdgbigkcophjoaa.GoN.nest_head Ogroups_4l0.out))))
          clear ct_15_0__572 ct_15_1__573 ct_15_2__574 ct_15_3__575 kx_17_0 kx_17_1 kx_17_2 kx_17_3
          clear Ogroups_4l0 Gt_33 h1t_33i h2t_33i h3t_33i h4t_33i h5t_33i
          clear Ot_31
          have mmt_33 := Lib.hid Ut_33.out.2.1
          clear Ut_33
          replace H := app_hid H
          go_wp2_with fail
          go_roundg m0
          case measure => omega
          case rel => exact ⟨k0 + 1, _, _, _, _, by omega, by go_num, rfl, H, HBwt_33, Pt_33⟩
        | true =>
          replace H := let_hid H
          obtain ⟨t_27, ht_27, H⟩ := H
          obtain rfl : t_27 = false := ht_27.symm
          replace H := ite_f H
          replace H := app_hid H
          go_wp2_with fail
          go_roundg m0
          case measure => omega
          case rel => exact ⟨k0 + 1, _, _, _, _, by omega, by go_num, rfl, H, HBwt_26, Ogroups_4l0⟩
end Go.Proofs.Ytdgbigkcophjoaa.GiSameGauges
