/- The texts on which the proof of FnExactSameGauges stands, one behind the other (2 of 2). No condition of their own. -/
import Derived.Test.YtpcdaoeijlifmaaChecked
import Derived.Test.YtpcdaoeijlifmaaFnExactSameGaugesP1
import Derived.WalkKit
import Derived.WalkSpells
import Derived.WalkLawsBesides
import Derived.BigQuiet
import Derived.OwnWalk
import Derived.Deep.LoopGhost
import Derived.Deep.QuietTactic
import Derived.IntWalk
import Derived.Lib.QuietBelow
/- loop.example/g01062/impl.SameGauges as a plain function, and the contract of the program's: where the plain one has an answer, the program has it. Conditions: slices read as lists. -/
namespace Go.Proofs.Ytpcdaoeijlifmaa.GiSameGauges
set_option linter.unusedVariables false
set_option linter.unusedSimpArgs false
open Go.RowKit
open Go.Proofs.Ytpcdaoeijlifmaa.Rowed Go.Proofs.Ytpcdaoeijlifmaa.Turn Go.Proofs.Ytpcdaoeijlifmaa.Aid Go.Proofs.Ytpcdaoeijlifmaa.GoP Go.Proofs.Ytpcdaoeijlifmaa.GoM

def l0 (list : (List Go.Proofs.Ytpcdaoeijlifmaa.PComb.Comb)) (k0 : Nat) (s : (List (List Int))) (nx0 bk0 : (List (List Int)) → Option ((List (List Int)) × Bool)) : Option ((List (List Int)) × Bool) :=
  letK s fun groups_4l0 =>
  Option.bind (idx list (k0 : Int)) fun (yt_15 : Go.Proofs.Ytpcdaoeijlifmaa.PComb.Comb) =>
  unComb yt_15 fun (t_15_id : Int) (t_15_wide : Int) (t_15_high : Int) (t_15_line : Bool) =>
  guardK ((0 : Int) ≤ (k0 : Int) ∧ ((k0 : Int) : Int) ≤ (list.length : Int)) <|
  letK (List.take (Int.toNat (k0 : Int)) list) fun (t_24 : (List Go.Proofs.Ytpcdaoeijlifmaa.PComb.Comb)) =>
  Option.bind (Go.Proofs.Ytpcdaoeijlifmaa.GxSlicesContainsFuncLoopExampleG01062ImplCombLoopExampleG01062ImplCombiSameGauges1.P t_24 t_15_id t_15_wide t_15_high t_15_line) fun (t_26 : Bool) =>
  letK (!t_26) fun (t_27 : Bool) =>
  iteK t_27
  (Option.bind (Go.Proofs.Ytpcdaoeijlifmaa.GiIdsWhereCombiIdOfCombiSameGauges1.P list t_15_id t_15_wide t_15_high t_15_line) fun (t_31 : (List Int)) =>
  guardK (groups_4l0.length ≤ 1099511627776) <|
  letK (groups_4l0 ++ [t_31]) fun (t_33 : (List (List Int))) =>
  appK nx0 (t_33))
  (appK nx0 (groups_4l0))

def e0  (s : (List (List Int))) : Option ((List (List Int)) × Bool) :=
  letK s fun groups_4l0 =>
  some (groups_4l0, true)

def P (list : (List Go.Proofs.Ytpcdaoeijlifmaa.PComb.Comb)) : Option ((List (List Int)) × Bool) :=
  Option.bind (Go.Proofs.Ytpcdaoeijlifmaa.GiAreCombs.P list) fun (t_3 : Bool) =>
  letK (!t_3) fun (t_4 : Bool) =>
  iteK t_4
  (some (([] : List (List Int)), false))
  (cntK (l0 list) (list.length) 0 (([] : List (List Int))) (e0 ))

set_option maxRecDepth 100000 in
set_option maxHeartbeats 2000000 in
theorem C (list : (List Go.Proofs.Ytpcdaoeijlifmaa.PComb.Comb)) (A0 : Option Addr) (c0 : Nat)  (w : World) (M0 : Hid (Cells w 4 A0 list.length (Go.Proofs.Ytpcdaoeijlifmaa.PComb.flat list))) (N0 : Hid (list.length ≤ 9223372036854775807)) (Q0 : Hid (Room A0 list.length c0))  {r0 : (List (List Int))} {r1 : Bool} (H : Hid (P list = some (r0, r1))) :
    Calls Try.prog 12 #[.slice A0 list.length c0] w (fun e w' => ∃ A_r0 c_r0, e = .returned (.tuple #[.slice A_r0 r0.length c_r0, .bool r1]) ∧ (∃ B_, Go.Proofs.Ytpcdaoeijlifmaa.GoN.OwnNest w' (w.heap.size) 70 3 1 Go.Proofs.Ytpcdaoeijlifmaa.HelpInt.iv A_r0 c_r0 r0 B_) ∧ Below w.heap.size w w') := by
  have HB := Lib.hid (Below.refl w.heap.size w)
  unfold P at H
  have N0o := N0.out
  obtain ⟨i0_78, hi_78, hz0_78, hz1_78, hz2_78⟩ := Aid.info_parts (P := Try.prog) (T := 78) (z := .agg #[.int .i64 0, .int .i64 0, .int .i64 0, .bool false]) (s := 4) (b := 32) (by kernel_rfl)
  obtain ⟨i0_70, hi_70, hz0_70, hz1_70, hz2_70⟩ := Aid.info_parts (P := Try.prog) (T := 70) (z := .slice none 0 0) (s := 1) (b := 24) (by kernel_rfl)
  go_enter Try.func12, Try.ntmps12
  replace H := bind_hid H
  obtain ⟨t_3, qt_3, H⟩ := H
  go_wp2_with fail
  go_at_call 53
  refine (Go.Proofs.Ytpcdaoeijlifmaa.GiAreCombs.C (list) A0 c0 _   (Lib.hid (Cells.below M0.out HB.out)) N0 qt_3).mono ?_
  rintro e_t_3 wt_3 ⟨rfl, bt_3⟩
  have HBwt_3 := Lib.hid (Below.step HB.out bt_3)
  clear bt_3
  cases t_3 with
  | false =>
    replace H := let_hid H
    obtain ⟨t_4, ht_4, H⟩ := H
    obtain rfl : t_4 = true := ht_4.symm
    replace H := ite_t H
    obtain ⟨w_t_5, hw_t_5⟩ : ∃ x, wt_3.alloc (.cells #[] 70) = x := ⟨_, rfl⟩
    have bw_t_5 : Below wt_3.heap.size wt_3 w_t_5 := by rw [← hw_t_5]; exact (Below.refl _ _).alloc (Nat.le_refl _) _
    have Ot_5 : Hid (Go.Proofs.Ytpcdaoeijlifmaa.GoN.OwnNest w_t_5 (w.heap.size) 70 3 1 Go.Proofs.Ytpcdaoeijlifmaa.HelpInt.iv (some ⟨wt_3.heap.size, 0, none⟩) 0 ([] : List (List Int)) [some ⟨wt_3.heap.size, 0, none⟩]) := Lib.hid (by rw [← hw_t_5]; exact Go.Proofs.Ytpcdaoeijlifmaa.GoN.nest_empty HBwt_3.out.size)
    have HBw_t_5 := Lib.hid (Below.step HBwt_3.out bw_t_5)
    clear bw_t_5
    cases ret_hid H
    go_wp2_with fail
    go_ret2
    exact ⟨(some ⟨wt_3.heap.size, 0, none⟩), 0, rfl, ⟨_, Ot_5.out⟩, HBw_t_5.out⟩
  | true =>
    replace H := let_hid H
    obtain ⟨t_4, ht_4, H⟩ := H
    obtain rfl : t_4 = false := ht_4.symm
    replace H := ite_f H
    obtain ⟨w_t_8, hw_t_8⟩ : ∃ x, wt_3.alloc (.cells #[] 70) = x := ⟨_, rfl⟩
    have bw_t_8 : Below wt_3.heap.size wt_3 w_t_8 := by rw [← hw_t_8]; exact (Below.refl _ _).alloc (Nat.le_refl _) _
    have Ot_8 : Hid (Go.Proofs.Ytpcdaoeijlifmaa.GoN.OwnNest w_t_8 (w.heap.size) 70 3 1 Go.Proofs.Ytpcdaoeijlifmaa.HelpInt.iv (some ⟨wt_3.heap.size, 0, none⟩) 0 ([] : List (List Int)) [some ⟨wt_3.heap.size, 0, none⟩]) := Lib.hid (by rw [← hw_t_8]; exact Go.Proofs.Ytpcdaoeijlifmaa.GoN.nest_empty HBwt_3.out.size)
    have HBw_t_8 := Lib.hid (Below.step HBwt_3.out bw_t_8)
    clear bw_t_8
    go_wp2_with fail
    go_loopg [15, 4] (list.length) (fun m_ v15_ v4_ wr => ∃ (k0 : Nat) (groups_4l0 : (List (List Int))) (Agroups_4l0 : Option Addr) (cgroups_4l0 : Nat) (Bgroups_4l0 : List (Option Addr)), k0 + m_ = list.length ∧ v15_ = .int .i64 (k0 : Int) ∧ v4_ = .slice Agroups_4l0 groups_4l0.length cgroups_4l0 ∧ Hid (cntK (l0 list) m_ k0 (groups_4l0) (e0 ) = some (r0, r1)) ∧ Hid (Below w.heap.size w wr) ∧ Hid (Go.Proofs.Ytpcdaoeijlifmaa.GoN.OwnNest wr (w.heap.size) 70 3 1 Go.Proofs.Ytpcdaoeijlifmaa.HelpInt.iv Agroups_4l0 cgroups_4l0 groups_4l0 Bgroups_4l0))
    case atStart => exact ⟨0, _, _, _, _, by omega, rfl, rfl, H, HBw_t_8, Ot_8⟩
    case round =>
      obtain ⟨k0, groups_4l0, Agroups_4l0, cgroups_4l0, Bgroups_4l0, hkm0, rfl, rfl, H, HBwr0, Ogroups_4l0⟩ := hrel
      rename World => wr0
      cases gk with
      | zero =>
        obtain rfl : k0 = list.length := by omega
        have hc0 : decide (((list.length : Nat) : Int) < ((list.length : Nat) : Int)) = false := by simp
        replace H := cnt_zero H
        unfold e0 at H
        replace H := let_hid H
        obtain ⟨_, rfl, H⟩ := H
        cases ret_hid H
        go_wp2_with fail
        go_ret2
        exact ⟨Agroups_4l0, cgroups_4l0, rfl, ⟨_, Ogroups_4l0.out⟩, HBwr0.out⟩
      | succ m0 =>
        have hlt0 : k0 < list.length := by omega
        have hc0 : decide ((k0 : Int) < ((list.length : Nat) : Int)) = true := by simp; omega
        replace H := cnt_succ H
        unfold l0 at H
        replace H := let_hid H
        obtain ⟨_, rfl, H⟩ := H
        replace H := idx_hid H
        obtain ⟨nt_15, yt_15, et_15, lt_15, gt_15, H⟩ := H
        obtain rfl : k0 = nt_15 := by omega
        clear et_15
        obtain ⟨t_15_id, t_15_wide, t_15_high, t_15_line⟩ := yt_15
        replace H := unComb_hid H
        obtain ⟨ab_t_15, ao_t_15, zt_15, At_15, z_t_15, ct_15_0, ct_15_1, ct_15_2, ct_15_3⟩ := Go.Proofs.Ytpcdaoeijlifmaa.OComb.at_ M0.out lt_15
        obtain rfl := Option.some.inj (gt_15.out.symm.trans z_t_15)
        subst At_15
        have ltt_15 := cell_lt ct_15_0
        replace ct_15_0 := cell_below HBwr0.out ct_15_0
        replace ct_15_1 := cell_below HBwr0.out ct_15_1
        replace ct_15_2 := cell_below HBwr0.out ct_15_2
        replace ct_15_3 := cell_below HBwr0.out ct_15_3
        clear z_t_15
        have b0t_15 : (0 : Int) ≤ (k0 : Int) := by omega
        have b1t_15 : (k0 : Int) < ((list.length : Nat) : Int) := by omega
        have b2t_15 : ((k0 : Int)).toNat = k0 := by omega
        obtain ⟨w_x_17, hw_x_17⟩ : ∃ x, wr0.alloc (.cells #[.int .i64 t_15_id, .int .i64 t_15_wide, .int .i64 t_15_high, .bool t_15_line] 78) = x := ⟨_, rfl⟩
        have bw_x_17 : Below wr0.heap.size wr0 w_x_17 := by rw [← hw_x_17]; exact (Below.refl _ _).alloc (Nat.le_refl _) _
        have Dx_17_groups_4l0 := Lib.hid (Go.Proofs.Ytpcdaoeijlifmaa.GoN.nest_fresh Ogroups_4l0.out)
        have HBw_x_17 := Lib.hid (Below.step HBwr0.out bw_x_17)
        have ct_15_0__117 := cell_below bw_x_17 ct_15_0
        have ct_15_1__118 := cell_below bw_x_17 ct_15_1
        have ct_15_2__119 := cell_below bw_x_17 ct_15_2
        have ct_15_3__120 := cell_below bw_x_17 ct_15_3
        replace Ogroups_4l0 := Lib.hid (Go.Proofs.Ytpcdaoeijlifmaa.GoN.nest_below Ogroups_4l0.out bw_x_17)
        clear bw_x_17
        have kx_17_0 : w_x_17.cell? ⟨wr0.heap.size, 0, none⟩ = some (.int .i64 t_15_id) := by rw [← hw_x_17]; exact box_new _ _ _ 0 _ rfl
        have kx_17_1 : w_x_17.cell? ⟨wr0.heap.size, 1, none⟩ = some (.int .i64 t_15_wide) := by rw [← hw_x_17]; exact box_new _ _ _ 1 _ rfl
        have kx_17_2 : w_x_17.cell? ⟨wr0.heap.size, 2, none⟩ = some (.int .i64 t_15_high) := by rw [← hw_x_17]; exact box_new _ _ _ 2 _ rfl
        have kx_17_3 : w_x_17.cell? ⟨wr0.heap.size, 3, none⟩ = some (.bool t_15_line) := by rw [← hw_x_17]; exact box_new _ _ _ 3 _ rfl
        replace H := guard_hid H
        obtain ⟨hl_t_24, H⟩ := H
        replace H := let_hid H
        obtain ⟨t_24, ht_24, H⟩ := H
        have dt_24 : ((Go.Proofs.Ytpcdaoeijlifmaa.PComb.flat list)).take (Int.toNat (k0 : Int) * 4) = (Go.Proofs.Ytpcdaoeijlifmaa.PComb.flat t_24) := by
          rw [← ht_24]
          exact flat_take Go.Proofs.Ytpcdaoeijlifmaa.PComb.Comb.cells 4 (fun _ => rfl) _ _
        have nt_24 : Int.toNat (k0 : Int) = t_24.length := by rw [← ht_24, List.length_take]; omega
        obtain ⟨rt_24, Mt_24, Qt_24⟩ := slice_headB (P := Try.prog) (t := 27) (e := 78) (k := .i64) (by kernel_rfl) (by kernel_rfl) hi_78 hz1_78 M0.out Q0.out hl_t_24 nt_24 dt_24
        have Nt_24 : Hid (t_24.length ≤ 9223372036854775807) := Lib.hid (by have := N0.out; omega)
        replace Mt_24 := Lib.hid Mt_24
        replace Qt_24 := Lib.hid Qt_24
        clear dt_24 nt_24 hl_t_24
        have hht_24 := Lib.hid ht_24
        clear ht_24
        replace H := bind_hid H
        obtain ⟨t_26, qt_26, H⟩ := H
        go_wp2_with fail
        clear ct_15_0 ct_15_1 ct_15_2 ct_15_3
        go_at_call 55
        refine (Go.Proofs.Ytpcdaoeijlifmaa.GxSlicesContainsFuncLoopExampleG01062ImplCombLoopExampleG01062ImplCombiSameGauges1.C (t_24) (t_15_id) (t_15_wide) (t_15_high) (t_15_line) (some ⟨ab_t_15, ao_t_15, none⟩) c0 (wr0.heap.size) _   (Lib.hid (Cells.below Mt_24.out HBw_x_17.out)) Nt_24 (Lib.hid kx_17_0) (Lib.hid kx_17_1) (Lib.hid kx_17_2) (Lib.hid kx_17_3) qt_26).mono ?_
        rintro e_t_26 wt_26 ⟨rfl, bt_26⟩
        have HBwt_26 := Lib.hid (Below.step HBw_x_17.out bt_26)
        replace ct_15_0__117 := cell_below bt_26 ct_15_0__117
        replace ct_15_1__118 := cell_below bt_26 ct_15_1__118
        replace ct_15_2__119 := cell_below bt_26 ct_15_2__119
        replace ct_15_3__120 := cell_below bt_26 ct_15_3__120
        replace kx_17_0 := cell_below bt_26 kx_17_0
        replace kx_17_1 := cell_below bt_26 kx_17_1
        replace kx_17_2 := cell_below bt_26 kx_17_2
        replace kx_17_3 := cell_below bt_26 kx_17_3
        replace Ogroups_4l0 := Lib.hid (Go.Proofs.Ytpcdaoeijlifmaa.GoN.nest_below Ogroups_4l0.out bt_26)
        clear bt_26
        cases t_26 with
        | false =>
          replace H := let_hid H
          obtain ⟨t_27, ht_27, H⟩ := H
          obtain rfl : t_27 = true := ht_27.symm
          replace H := ite_t H
          replace H := bind_hid H
          obtain ⟨t_31, qt_31, H⟩ := H
          go_wp2_with fail
          go_at_call 56
          refine (Go.Proofs.Ytpcdaoeijlifmaa.GiIdsWhereCombiIdOfCombiSameGauges1.C (list) (t_15_id) (t_15_wide) (t_15_high) (t_15_line) (some ⟨ab_t_15, ao_t_15, none⟩) c0 (wr0.heap.size) _   (Lib.hid (Cells.below M0.out HBwt_26.out)) N0 (Lib.hid kx_17_0) (Lib.hid kx_17_1) (Lib.hid kx_17_2) (Lib.hid kx_17_3) qt_31).mono ?_
          rintro e_t_31 wt_31 ⟨At_31, ct_31, rfl, ot_31, bt_31⟩
          have Dt_31_groups_4l0 := Lib.hid (Go.Proofs.Ytpcdaoeijlifmaa.GoN.nest_call ot_31 Ogroups_4l0.out)
          have Dt_31_x_17 := Lib.hid (apart_callbox ot_31 kx_17_0)
          have Ot_31 := Lib.hid (own_lower ot_31 HBwt_26.out.size)
          clear ot_31
          have HBwt_31 := Lib.hid (Below.step HBwt_26.out bt_31)
          replace ct_15_0__117 := cell_below bt_31 ct_15_0__117
          replace ct_15_1__118 := cell_below bt_31 ct_15_1__118
          replace ct_15_2__119 := cell_below bt_31 ct_15_2__119
          replace ct_15_3__120 := cell_below bt_31 ct_15_3__120
          replace kx_17_0 := cell_below bt_31 kx_17_0
          replace kx_17_1 := cell_below bt_31 kx_17_1
          replace kx_17_2 := cell_below bt_31 kx_17_2
          replace kx_17_3 := cell_below bt_31 kx_17_3
          replace Ogroups_4l0 := Lib.hid (Go.Proofs.Ytpcdaoeijlifmaa.GoN.nest_below Ogroups_4l0.out bt_31)
          clear bt_31
          obtain ⟨w_t_32, hw_t_32⟩ : ∃ x, wt_31.alloc (.cells #[.slice At_31 t_31.length ct_31] 70) = x := ⟨_, rfl⟩
          have bw_t_32 : Below wt_31.heap.size wt_31 w_t_32 := by rw [← hw_t_32]; exact (Below.refl _ _).alloc (Nat.le_refl _) _
          have HBw_t_32 := Lib.hid (Below.step HBwt_31.out bw_t_32)
          have ct_15_0__121 := cell_below bw_t_32 ct_15_0__117
          have ct_15_1__122 := cell_below bw_t_32 ct_15_1__118
          have ct_15_2__123 := cell_below bw_t_32 ct_15_2__119
          have ct_15_3__124 := cell_below bw_t_32 ct_15_3__120
          have kx_17_0__125 := cell_below bw_t_32 kx_17_0
          have kx_17_1__126 := cell_below bw_t_32 kx_17_1
          have kx_17_2__127 := cell_below bw_t_32 kx_17_2
          have kx_17_3__128 := cell_below bw_t_32 kx_17_3
          replace Ogroups_4l0 := Lib.hid (Go.Proofs.Ytpcdaoeijlifmaa.GoN.nest_below Ogroups_4l0.out bw_t_32)
          replace Ot_31 := Lib.hid (own_below Ot_31.out bw_t_32)
          clear bw_t_32
          replace H := guard_hid H
          obtain ⟨hlt_33, H⟩ := H
          replace H := let_hid H
          obtain ⟨t_33, ht_33, H⟩ := H
          have hht_33 := Lib.hid ht_33
          clear ht_33
          have hst_33 := HBw_t_32.out.size
          obtain ⟨zt_33, h1t_33, h2t_33, h3t_33, h4t_33, h5t_33⟩ := Ogroups_4l0.out
          have h1t_33i := Lib.hid h1t_33
          have h3t_33i := Lib.hid h3t_33
          have h4t_33i := Lib.hid h4t_33
          have h5t_33i := Lib.hid h5t_33
          clear h1t_33 h3t_33 h4t_33 h5t_33
          have h2t_33i := Lib.hid h2t_33
          clear h2t_33
          go_wp2_with (at_builtin; refine wpList_append_own_at _ rfl _ _ 24 rfl w.heap.size 70 i0_70 (.slice none 0 0) 1 24 Try.underlying24 hi_70 hz0_70 hz1_70 hz2_70 rfl (by decide) _ _ _ rfl h2t_33i.out ⟨wt_31.heap.size, 0, none⟩ 1 1 [.slice At_31 t_31.length ct_31] rfl rfl (news_new hw_t_32) (one_cells rfl) (by unfold maxLen; omega) (by omega) hst_33 ?_; intro vt_33 wt_33 ot_33 gt_33 ut_33 yt_33; clear ut_33; obtain ⟨qt_33, ct_33, Bt_33, rfl, pt_33, dt_33, rt_33⟩ := Go.Proofs.Ytpcdaoeijlifmaa.GoN.nest_app hht_33.out h1t_33i.out h4t_33i.out h3t_33i.out h5t_33i.out Ot_31.out Dt_31_groups_4l0.out gt_33 ot_33 yt_33; have Pt_33 := Lib.hid pt_33; have Ut_33 := Lib.hid dt_33; have Rt_33 := Lib.hid rt_33; have Gt_33 := Lib.hid gt_33; clear ot_33 gt_33 pt_33 yt_33 dt_33 rt_33; refine stop_in ?_)
          refine stop_out ?_
          have HBwt_33 := Lib.hid (HBw_t_32.out.grown Gt_33.out hst_33 (fun q hq => (h2t_33i.out.lt q hq).1))
          clear hst_33
          have Dt_33_x_17 : Hid (∀ y_ ∈ Bt_33, Apart (some ⟨wr0.heap.size, 0, none⟩) y_) := Lib.hid (Go.Proofs.Ytpcdaoeijlifmaa.GoN.apart_push Dx_17_groups_4l0.out (Apart.symm Dt_31_x_17.out) (fun a_ ha_ => by cases ha_; exact cell_lt kx_17_0__125) Ut_33.out)
          replace ct_15_0__121 := cell_other ct_15_0__121 Gt_33.out (apart_old h2t_33i.out ltt_15)
          replace ct_15_1__122 := cell_other ct_15_1__122 Gt_33.out (apart_old h2t_33i.out ltt_15)
          replace ct_15_2__123 := cell_other ct_15_2__123 Gt_33.out (apart_old h2t_33i.out ltt_15)
          replace ct_15_3__124 := cell_other ct_15_3__124 Gt_33.out (apart_old h2t_33i.out ltt_15)
          replace kx_17_0__125 := cell_other kx_17_0__125 Gt_33.out (Apart.symm (Dx_17_groups_4l0.out _ (Go.Proofs.Ytpcdaoeijlifmaa.GoN.nest_head Ogroups_4l0.out)))
          replace kx_17_1__126 := cell_other kx_17_1__126 Gt_33.out (Apart.symm (Dx_17_groups_4l0.out _ (Go.Proofs.Ytpcdaoeijlifmaa.GoN.nest_head Ogroups_4l0.out)))
          replace kx_17_2__127 := cell_other kx_17_2__127 Gt_33.out (Apart.symm (Dx_17_groups_4l0.out _ (Go.Proofs.Ytpcdaoeijlifmaa.GoN.nest_head Ogroups_4l0.out)))
          replace kx_17_3__128 := cell_other kx_17_3__128 Gt_33.out (Apart.symm (Dx_17_groups_4l0.out _ (Go.Proofs.Ytpcdaoeijlifmaa.GoN.nest_head Ogroups_4l0.out)))
          replace Ot_31 := Lib.hid (own_other Ot_31.out Gt_33.out (Apart.symm (Dt_31_groups_4l0.out _ (Go.Proofs.Ytpcdaoeijlifmaa.GoN.nest_head Ogroups_4l0.out))))
          clear ct_15_0__117 ct_15_1__118 ct_15_2__119 ct_15_3__120 kx_17_0 kx_17_1 kx_17_2 kx_17_3
          clear Ogroups_4l0 Gt_33 h1t_33i h2t_33i h3t_33i h4t_33i h5t_33i
          clear Ot_31
          have mmt_33 := Lib.hid Ut_33.out.2.1
          clear Ut_33
          replace H := app_hid H
          go_wp2_with fail
          go_roundg m0
          case measure => omega
          case rel => exact ⟨k0 + 1, _, _, _, _, by omega, by go_num, rfl, H, HBwt_33, Pt_33⟩
        | true =>
          replace H := let_hid H
          obtain ⟨t_27, ht_27, H⟩ := H
          obtain rfl : t_27 = false := ht_27.symm
          replace H := ite_f H
          replace H := app_hid H
          go_wp2_with fail
          go_roundg m0
          case measure => omega
          case rel => exact ⟨k0 + 1, _, _, _, _, by omega, by go_num, rfl, H, HBwt_26, Ogroups_4l0⟩
end Go.Proofs.Ytpcdaoeijlifmaa.GiSameGauges

/- loop.example/g01062/laws.eqIntS as a plain function, and the contract of the program's: where the plain one has an answer, the program has it. Conditions: slices read as lists. -/
namespace Go.Proofs.Ytpcdaoeijlifmaa.GlEqIntS
set_option linter.unusedVariables false
set_option linter.unusedSimpArgs false
open Go.RowKit
open Go.Proofs.Ytpcdaoeijlifmaa.Rowed Go.Proofs.Ytpcdaoeijlifmaa.Turn Go.Proofs.Ytpcdaoeijlifmaa.Aid Go.Proofs.Ytpcdaoeijlifmaa.GoP Go.Proofs.Ytpcdaoeijlifmaa.GoM

def l0 (a : (List Int)) (b : (List Int)) (k0 : Nat) (s : Unit) (nx0 bk0 : Unit → Option (Bool)) : Option (Bool) :=
  
  Option.bind (idx a (k0 : Int)) fun (yt_14 : Int) =>
  Option.bind (idx b (k0 : Int)) fun (yt_18 : Int) =>
  letK (yt_14 != yt_18) fun (t_20 : Bool) =>
  iteK t_20
  (some false)
  (appK nx0 ())

def e0  (s : Unit) : Option (Bool) :=
  
  some true

def P (a : (List Int)) (b : (List Int)) : Option (Bool) :=
  letK ((a.length : Int) != (b.length : Int)) fun (t_5 : Bool) =>
  iteK t_5
  (some false)
  (cntK (l0 a b) (a.length) 0 () (e0 ))

set_option maxRecDepth 100000 in
set_option maxHeartbeats 2000000 in
theorem C (a : (List Int)) (b : (List Int)) (A0 : Option Addr) (c0 : Nat) (A1 : Option Addr) (c1 : Nat)  (w : World) (M0 : Hid (Cells w 1 A0 a.length (Go.Proofs.Ytpcdaoeijlifmaa.HelpInt.iv a))) (N0 : Hid (a.length ≤ 9223372036854775807)) (M1 : Hid (Cells w 1 A1 b.length (Go.Proofs.Ytpcdaoeijlifmaa.HelpInt.iv b))) (N1 : Hid (b.length ≤ 9223372036854775807))  {r : Bool} (H : Hid (P a b = some r)) :
    Calls Try.prog 48 #[.slice A0 a.length c0, .slice A1 b.length c1] w (Gives (.bool r) w) := by
  have HB := Lib.hid (Below.refl w.heap.size w)
  unfold P at H
  have N0o := N0.out
  have N1o := N1.out
  go_enter Try.func48, Try.ntmps48
  replace H := let_hid H
  obtain ⟨t_5, ht_5, H⟩ := H
  cases t_5 with
  | false =>
    have Hht_5 : Hid (a.length = b.length) := Lib.hid (by have := bne_eq_false_iff_eq.1 ht_5; omega)
    have nht_5 : (a.length == b.length) = true := beq_iff_eq.2 Hht_5.out
    replace H := ite_f H
    go_wp2_with fail
    go_loopg [5] (a.length) (fun m_ v5_ wr => ∃ (k0 : Nat) , k0 + m_ = a.length ∧ v5_ = .int .i64 (k0 : Int) ∧ Hid (cntK (l0 a b) m_ k0 () (e0 ) = some r) ∧ Hid (Below w.heap.size w wr))
    case atStart => exact ⟨0, by omega, rfl, H, HB⟩
    case round =>
      obtain ⟨k0, hkm0, rfl, H, HBwr0⟩ := hrel
      rename World => wr0
      cases gk with
      | zero =>
        obtain rfl : k0 = a.length := by omega
        have hc0 : decide (((a.length : Nat) : Int) < ((a.length : Nat) : Int)) = false := by simp
        replace H := cnt_zero H
        unfold e0 at H
        obtain rfl := ret_hid H
        go_wp2_with fail
        go_ret
        exact ⟨rfl, HBwr0.out⟩
      | succ m0 =>
        have hlt0 : k0 < a.length := by omega
        have hc0 : decide ((k0 : Int) < ((a.length : Nat) : Int)) = true := by simp; omega
        replace H := cnt_succ H
        unfold l0 at H
        go_wp2_with fail
        replace H := idx_hid H
        obtain ⟨nt_14, yt_14, et_14, lt_14, gt_14, H⟩ := H
        obtain rfl : k0 = nt_14 := by omega
        clear et_14
        obtain ⟨ab_t_14, ao_t_14, zt_14, At_14, z_t_14, ct_14_0⟩ := Go.Proofs.Ytpcdaoeijlifmaa.HelpInt.Ints.at_ M0.out lt_14
        obtain rfl := Option.some.inj (gt_14.out.symm.trans z_t_14)
        subst At_14
        have ltt_14 := cell_lt ct_14_0
        replace ct_14_0 := cell_below HBwr0.out ct_14_0
        clear z_t_14
        have b0t_14 : (0 : Int) ≤ (k0 : Int) := by omega
        have b1t_14 : (k0 : Int) < ((a.length : Nat) : Int) := by omega
        have b2t_14 : ((k0 : Int)).toNat = k0 := by omega
        have Hct_14_0 := Lib.hid ct_14_0
        replace ct_14_0 := cell_regrown ct_14_0
        replace H := idx_hid H
        obtain ⟨nt_18, yt_18, et_18, lt_18, gt_18, H⟩ := H
        obtain rfl : k0 = nt_18 := by omega
        clear et_18
        obtain ⟨ab_t_18, ao_t_18, zt_18, At_18, z_t_18, ct_18_0⟩ := Go.Proofs.Ytpcdaoeijlifmaa.HelpInt.Ints.at_ M1.out lt_18
        obtain rfl := Option.some.inj (gt_18.out.symm.trans z_t_18)
        subst At_18
        have ltt_18 := cell_lt ct_18_0
        replace ct_18_0 := cell_below HBwr0.out ct_18_0
        clear z_t_18
        have b0t_18 : (0 : Int) ≤ (k0 : Int) := by omega
        have b1t_18 : (k0 : Int) < ((b.length : Nat) : Int) := by omega
        have b2t_18 : ((k0 : Int)).toNat = k0 := by omega
        have Hct_18_0 := Lib.hid ct_18_0
        replace ct_18_0 := cell_regrown ct_18_0
        replace H := let_hid H
        obtain ⟨t_20, ht_20, H⟩ := H
        refine wp_region_quiet_below (by kernel_rfl) (by kernel_rfl) ?_
        repeat (go_big_quiet_step (fail))
        refine wpQuiet_nil ?_
        intro Y6 hY6
        replace hY6 := below_class hY6
        replace ct_14_0 := Hct_14_0.out
        clear Hct_14_0
        replace ct_18_0 := Hct_18_0.out
        clear Hct_18_0
        have HBY6 := Lib.hid (Below.step HBwr0.out hY6)
        replace ct_14_0 := cell_below hY6 ct_14_0
        replace ct_18_0 := cell_below hY6 ct_18_0
        clear hY6
        cases t_20 with
        | false =>
          replace H := ite_f H
          replace H := app_hid H
          go_wp2_with fail
          go_roundg m0
          case measure => omega
          case rel => exact ⟨k0 + 1, by omega, by go_num, H, HBY6⟩
        | true =>
          replace H := ite_t H
          obtain rfl := ret_hid H
          go_wp2_with fail
          go_ret
          exact ⟨rfl, HBY6.out⟩
  | true =>
    have nht_5 : ¬ (a.length = b.length) := by have := bne_iff_ne.1 ht_5; omega
    replace H := ite_t H
    obtain rfl := ret_hid H
    go_wp2_with fail
    go_ret
    exact ⟨rfl, HB.out⟩
end Go.Proofs.Ytpcdaoeijlifmaa.GlEqIntS

/- loop.example/g01062/laws.eqIntSS as a plain function, and the contract of the program's: where the plain one has an answer, the program has it. Conditions: slices read as lists. -/
namespace Go.Proofs.Ytpcdaoeijlifmaa.GlEqIntSS
set_option linter.unusedVariables false
set_option linter.unusedSimpArgs false
open Go.RowKit
open Go.Proofs.Ytpcdaoeijlifmaa.Rowed Go.Proofs.Ytpcdaoeijlifmaa.Turn Go.Proofs.Ytpcdaoeijlifmaa.Aid Go.Proofs.Ytpcdaoeijlifmaa.GoP Go.Proofs.Ytpcdaoeijlifmaa.GoM

def l0 (a : (List (List Int))) (b : (List (List Int))) (k0 : Nat) (s : Unit) (nx0 bk0 : Unit → Option (Bool)) : Option (Bool) :=
  
  Option.bind (idx a (k0 : Int)) fun (yt_14 : (List Int)) =>
  Option.bind (idx b (k0 : Int)) fun (yt_18 : (List Int)) =>
  Option.bind (Go.Proofs.Ytpcdaoeijlifmaa.GlEqIntS.P yt_14 yt_18) fun (t_20 : Bool) =>
  letK (!t_20) fun (t_21 : Bool) =>
  iteK t_21
  (some false)
  (appK nx0 ())

def e0  (s : Unit) : Option (Bool) :=
  
  some true

def P (a : (List (List Int))) (b : (List (List Int))) : Option (Bool) :=
  letK ((a.length : Int) != (b.length : Int)) fun (t_5 : Bool) =>
  iteK t_5
  (some false)
  (cntK (l0 a b) (a.length) 0 () (e0 ))

set_option maxRecDepth 100000 in
set_option maxHeartbeats 2000000 in
theorem C (a : (List (List Int))) (b : (List (List Int))) (A0 : Option Addr) (c0 : Nat) (A1 : Option Addr) (c1 : Nat)  (w : World) (M0 : Hid (Go.Proofs.Ytpcdaoeijlifmaa.GoN.ReadNest w 1 Go.Proofs.Ytpcdaoeijlifmaa.HelpInt.iv A0 a)) (N0 : Hid (a.length ≤ 9223372036854775807)) (M1 : Hid (Go.Proofs.Ytpcdaoeijlifmaa.GoN.ReadNest w 1 Go.Proofs.Ytpcdaoeijlifmaa.HelpInt.iv A1 b)) (N1 : Hid (b.length ≤ 9223372036854775807))  {r : Bool} (H : Hid (P a b = some r)) :
    Calls Try.prog 13 #[.slice A0 a.length c0, .slice A1 b.length c1] w (Gives (.bool r) w) := by
  have HB := Lib.hid (Below.refl w.heap.size w)
  unfold P at H
  have N0o := N0.out
  have N1o := N1.out
  go_enter Try.func13, Try.ntmps13
  replace H := let_hid H
  obtain ⟨t_5, ht_5, H⟩ := H
  cases t_5 with
  | false =>
    have Hht_5 : Hid (a.length = b.length) := Lib.hid (by have := bne_eq_false_iff_eq.1 ht_5; omega)
    have nht_5 : (a.length == b.length) = true := beq_iff_eq.2 Hht_5.out
    replace H := ite_f H
    go_wp2_with fail
    go_loopg [5] (a.length) (fun m_ v5_ wr => ∃ (k0 : Nat) , k0 + m_ = a.length ∧ v5_ = .int .i64 (k0 : Int) ∧ Hid (cntK (l0 a b) m_ k0 () (e0 ) = some r) ∧ Hid (Below w.heap.size w wr))
    case atStart => exact ⟨0, by omega, rfl, H, HB⟩
    case round =>
      obtain ⟨k0, hkm0, rfl, H, HBwr0⟩ := hrel
      rename World => wr0
      cases gk with
      | zero =>
        obtain rfl : k0 = a.length := by omega
        have hc0 : decide (((a.length : Nat) : Int) < ((a.length : Nat) : Int)) = false := by simp
        replace H := cnt_zero H
        unfold e0 at H
        obtain rfl := ret_hid H
        go_wp2_with fail
        go_ret
        exact ⟨rfl, HBwr0.out⟩
      | succ m0 =>
        have hlt0 : k0 < a.length := by omega
        have hc0 : decide ((k0 : Int) < ((a.length : Nat) : Int)) = true := by simp; omega
        replace H := cnt_succ H
        unfold l0 at H
        go_wp2_with fail
        replace H := idx_hid H
        obtain ⟨nt_14, yt_14, et_14, lt_14, gt_14, H⟩ := H
        obtain rfl : k0 = nt_14 := by omega
        clear et_14
        obtain ⟨bbt_14, oot_14, zt_14, Art_14, crt_14, eAt_14, zzt_14, hct_14, hrt_14, hqt_14, hnt_14⟩ := Go.Proofs.Ytpcdaoeijlifmaa.GoN.nest_at M0.out (k := k0) lt_14
        obtain rfl := Option.some.inj (gt_14.out.symm.trans zzt_14)
        clear zzt_14
        subst eAt_14
        have ltt_14 := cell_lt hct_14
        replace hct_14 := cell_below HBwr0.out hct_14
        have Mrt_14 := Lib.hid hrt_14
        have Qrt_14 := Lib.hid hqt_14
        have Nrt_14 := Lib.hid hnt_14
        clear hrt_14 hqt_14 hnt_14
        have b0t_14 : (0 : Int) ≤ (k0 : Int) := by omega
        have b1t_14 : (k0 : Int) < ((a.length : Nat) : Int) := by omega
        have b2t_14 : ((k0 : Int)).toNat = k0 := by omega
        have Hhct_14 := Lib.hid hct_14
        replace hct_14 := cell_regrown hct_14
        replace H := idx_hid H
        obtain ⟨nt_18, yt_18, et_18, lt_18, gt_18, H⟩ := H
        obtain rfl : k0 = nt_18 := by omega
        clear et_18
        obtain ⟨bbt_18, oot_18, zt_18, Art_18, crt_18, eAt_18, zzt_18, hct_18, hrt_18, hqt_18, hnt_18⟩ := Go.Proofs.Ytpcdaoeijlifmaa.GoN.nest_at M1.out (k := k0) lt_18
        obtain rfl := Option.some.inj (gt_18.out.symm.trans zzt_18)
        clear zzt_18
        subst eAt_18
        have ltt_18 := cell_lt hct_18
        replace hct_18 := cell_below HBwr0.out hct_18
        have Mrt_18 := Lib.hid hrt_18
        have Qrt_18 := Lib.hid hqt_18
        have Nrt_18 := Lib.hid hnt_18
        clear hrt_18 hqt_18 hnt_18
        have b0t_18 : (0 : Int) ≤ (k0 : Int) := by omega
        have b1t_18 : (k0 : Int) < ((b.length : Nat) : Int) := by omega
        have b2t_18 : ((k0 : Int)).toNat = k0 := by omega
        have Hhct_18 := Lib.hid hct_18
        replace hct_18 := cell_regrown hct_18
        replace H := bind_hid H
        obtain ⟨t_20, qt_20, H⟩ := H
        have nt_20 : ∀ d os, Calls Try.prog 48 #[.slice Art_14 yt_14.length crt_14, .slice Art_18 yt_18.length crt_18] (Go.Sort.grow (redrawn wr0 d) os) fun e w'' => e = .returned (.bool t_20) ∧ ∃ p : Regrown, w'' = Go.Sort.grow (redrawn wr0 p.d) p.os := fun d os => Calls.regrown_of (Go.Proofs.Ytpcdaoeijlifmaa.GlEqIntS.C (yt_14) (yt_18) Art_14 crt_14 Art_18 crt_18 _   (Lib.hid (Cells.below (Cells.below Mrt_14.out HBwr0.out) (below_regrown _ _ _))) Nrt_14 (Lib.hid (Cells.below (Cells.below Mrt_18.out HBwr0.out) (below_regrown _ _ _))) Nrt_18 qt_20)
        cases t_20 with
        | false =>
          replace H := let_hid H
          obtain ⟨t_21, ht_21, H⟩ := H
          obtain rfl : t_21 = true := ht_21.symm
          refine wp_region_quiet_below (by kernel_rfl) (by kernel_rfl) ?_
          repeat (go_big_quiet_step (first | (go_at_call 48; exact nt_20 _ _)))
          refine wpQuiet_nil ?_
          intro Y6 hY6
          replace hY6 := below_class hY6
          clear nt_20
          replace hct_14 := Hhct_14.out
          clear Hhct_14
          replace hct_18 := Hhct_18.out
          clear Hhct_18
          have HBY6 := Lib.hid (Below.step HBwr0.out hY6)
          replace hct_14 := cell_below hY6 hct_14
          replace hct_18 := cell_below hY6 hct_18
          clear hY6
          replace H := ite_t H
          obtain rfl := ret_hid H
          go_wp2_with fail
          go_ret
          exact ⟨rfl, HBY6.out⟩
        | true =>
          replace H := let_hid H
          obtain ⟨t_21, ht_21, H⟩ := H
          obtain rfl : t_21 = false := ht_21.symm
          refine wp_region_quiet_below (by kernel_rfl) (by kernel_rfl) ?_
          repeat (go_big_quiet_step (first | (go_at_call 48; exact nt_20 _ _)))
          refine wpQuiet_nil ?_
          intro Y6 hY6
          replace hY6 := below_class hY6
          clear nt_20
          replace hct_14 := Hhct_14.out
          clear Hhct_14
          replace hct_18 := Hhct_18.out
          clear Hhct_18
          have HBY6 := Lib.hid (Below.step HBwr0.out hY6)
          replace hct_14 := cell_below hY6 hct_14
          replace hct_18 := cell_below hY6 hct_18
          clear hY6
          replace H := ite_f H
          replace H := app_hid H
          go_wp2_with fail
          go_roundg m0
          case measure => omega
          case rel => exact ⟨k0 + 1, by omega, by go_num, H, HBY6⟩
  | true =>
    have nht_5 : ¬ (a.length = b.length) := by have := bne_iff_ne.1 ht_5; omega
    replace H := ite_t H
    obtain rfl := ret_hid H
    go_wp2_with fail
    go_ret
    exact ⟨rfl, HB.out⟩
end Go.Proofs.Ytpcdaoeijlifmaa.GlEqIntSS

/- loop.example/g01062/laws.eqComb as a plain function, and the contract of the program's: where the plain one has an answer, the program has it. Conditions: slices read as lists. -/
namespace Go.Proofs.Ytpcdaoeijlifmaa.GlEqComb
set_option linter.unusedVariables false
set_option linter.unusedSimpArgs false
open Go.RowKit
open Go.Proofs.Ytpcdaoeijlifmaa.Rowed Go.Proofs.Ytpcdaoeijlifmaa.Turn Go.Proofs.Ytpcdaoeijlifmaa.Aid Go.Proofs.Ytpcdaoeijlifmaa.GoP Go.Proofs.Ytpcdaoeijlifmaa.GoM

def P (a : Go.Proofs.Ytpcdaoeijlifmaa.PComb.Comb) (b : Go.Proofs.Ytpcdaoeijlifmaa.PComb.Comb) : Option (Bool) :=
  unComb a fun (a_id : Int) (a_wide : Int) (a_high : Int) (a_line : Bool) =>
  unComb b fun (b_id : Int) (b_wide : Int) (b_high : Int) (b_line : Bool) =>
  letK (a_id != b_id) fun (t_7 : Bool) =>
  iteK t_7
  (some false)
  (letK (a_wide != b_wide) fun (t_13 : Bool) =>
  iteK t_13
  (some false)
  (letK (a_high != b_high) fun (t_19 : Bool) =>
  iteK t_19
  (some false)
  (letK (!(a_line == b_line)) fun (t_25 : Bool) =>
  iteK t_25
  (some false)
  (some true))))

set_option maxRecDepth 100000 in
set_option maxHeartbeats 2000000 in
theorem C (a : Go.Proofs.Ytpcdaoeijlifmaa.PComb.Comb) (b : Go.Proofs.Ytpcdaoeijlifmaa.PComb.Comb)   (w : World)   {r : Bool} (H : Hid (P a b = some r)) :
    Calls Try.prog 58 #[a.val, b.val] w (Gives (.bool r) w) := by
  have HB := Lib.hid (Below.refl w.heap.size w)
  unfold P at H
  obtain ⟨a_id, a_wide, a_high, a_line⟩ := a
  replace H := unComb_hid H
  obtain ⟨b_id, b_wide, b_high, b_line⟩ := b
  replace H := unComb_hid H
  unfold Go.Proofs.Ytpcdaoeijlifmaa.PComb.Comb.val
  go_enter Try.func58, Try.ntmps58
  obtain ⟨w_a_0, hw_a_0⟩ : ∃ x, w.alloc (.cells #[.int .i64 a_id, .int .i64 a_wide, .int .i64 a_high, .bool a_line] 78) = x := ⟨_, rfl⟩
  have bw_a_0 : Below w.heap.size w w_a_0 := by rw [← hw_a_0]; exact (Below.refl _ _).alloc (Nat.le_refl _) _
  have HBw_a_0 := Lib.hid (Below.step HB.out bw_a_0)
  clear bw_a_0
  have ka_0_0 : w_a_0.cell? ⟨w.heap.size, 0, none⟩ = some (.int .i64 a_id) := by rw [← hw_a_0]; exact box_new _ _ _ 0 _ rfl
  have ka_0_1 : w_a_0.cell? ⟨w.heap.size, 1, none⟩ = some (.int .i64 a_wide) := by rw [← hw_a_0]; exact box_new _ _ _ 1 _ rfl
  have ka_0_2 : w_a_0.cell? ⟨w.heap.size, 2, none⟩ = some (.int .i64 a_high) := by rw [← hw_a_0]; exact box_new _ _ _ 2 _ rfl
  have ka_0_3 : w_a_0.cell? ⟨w.heap.size, 3, none⟩ = some (.bool a_line) := by rw [← hw_a_0]; exact box_new _ _ _ 3 _ rfl
  obtain ⟨w_b_1, hw_b_1⟩ : ∃ x, w_a_0.alloc (.cells #[.int .i64 b_id, .int .i64 b_wide, .int .i64 b_high, .bool b_line] 78) = x := ⟨_, rfl⟩
  have bw_b_1 : Below w_a_0.heap.size w_a_0 w_b_1 := by rw [← hw_b_1]; exact (Below.refl _ _).alloc (Nat.le_refl _) _
  have HBw_b_1 := Lib.hid (Below.step HBw_a_0.out bw_b_1)
  have ka_0_0__129 := cell_below bw_b_1 ka_0_0
  have ka_0_1__130 := cell_below bw_b_1 ka_0_1
  have ka_0_2__131 := cell_below bw_b_1 ka_0_2
  have ka_0_3__132 := cell_below bw_b_1 ka_0_3
  clear bw_b_1
  have kb_1_0 : w_b_1.cell? ⟨w_a_0.heap.size, 0, none⟩ = some (.int .i64 b_id) := by rw [← hw_b_1]; exact box_new _ _ _ 0 _ rfl
  have kb_1_1 : w_b_1.cell? ⟨w_a_0.heap.size, 1, none⟩ = some (.int .i64 b_wide) := by rw [← hw_b_1]; exact box_new _ _ _ 1 _ rfl
  have kb_1_2 : w_b_1.cell? ⟨w_a_0.heap.size, 2, none⟩ = some (.int .i64 b_high) := by rw [← hw_b_1]; exact box_new _ _ _ 2 _ rfl
  have kb_1_3 : w_b_1.cell? ⟨w_a_0.heap.size, 3, none⟩ = some (.bool b_line) := by rw [← hw_b_1]; exact box_new _ _ _ 3 _ rfl
  replace H := let_hid H
  obtain ⟨t_7, ht_7, H⟩ := H
  cases t_7 with
  | false =>
    replace H := ite_f H
    replace H := let_hid H
    obtain ⟨t_13, ht_13, H⟩ := H
    cases t_13 with
    | false =>
      replace H := ite_f H
      replace H := let_hid H
      obtain ⟨t_19, ht_19, H⟩ := H
      cases t_19 with
      | false =>
        replace H := ite_f H
        replace H := let_hid H
        obtain ⟨t_25, ht_25, H⟩ := H
        cases t_25 with
        | false =>
          replace H := ite_f H
          obtain rfl := ret_hid H
          go_wp2_with fail
          go_ret
          exact ⟨rfl, HBw_b_1.out⟩
        | true =>
          replace H := ite_t H
          obtain rfl := ret_hid H
          go_wp2_with fail
          go_ret
          exact ⟨rfl, HBw_b_1.out⟩
      | true =>
        replace H := ite_t H
        obtain rfl := ret_hid H
        go_wp2_with fail
        go_ret
        exact ⟨rfl, HBw_b_1.out⟩
    | true =>
      replace H := ite_t H
      obtain rfl := ret_hid H
      go_wp2_with fail
      go_ret
      exact ⟨rfl, HBw_b_1.out⟩
  | true =>
    replace H := ite_t H
    obtain rfl := ret_hid H
    go_wp2_with fail
    go_ret
    exact ⟨rfl, HBw_b_1.out⟩
end Go.Proofs.Ytpcdaoeijlifmaa.GlEqComb

/- loop.example/g01062/laws.eqCombS as a plain function, and the contract of the program's: where the plain one has an answer, the program has it. Conditions: slices read as lists. -/
namespace Go.Proofs.Ytpcdaoeijlifmaa.GlEqCombS
set_option linter.unusedVariables false
set_option linter.unusedSimpArgs false
open Go.RowKit
open Go.Proofs.Ytpcdaoeijlifmaa.Rowed Go.Proofs.Ytpcdaoeijlifmaa.Turn Go.Proofs.Ytpcdaoeijlifmaa.Aid Go.Proofs.Ytpcdaoeijlifmaa.GoP Go.Proofs.Ytpcdaoeijlifmaa.GoM

def l0 (a : (List Go.Proofs.Ytpcdaoeijlifmaa.PComb.Comb)) (b : (List Go.Proofs.Ytpcdaoeijlifmaa.PComb.Comb)) (k0 : Nat) (s : Unit) (nx0 bk0 : Unit → Option (Bool)) : Option (Bool) :=
  
  Option.bind (idx a (k0 : Int)) fun (yt_14 : Go.Proofs.Ytpcdaoeijlifmaa.PComb.Comb) =>
  unComb yt_14 fun (t_14_id : Int) (t_14_wide : Int) (t_14_high : Int) (t_14_line : Bool) =>
  Option.bind (idx b (k0 : Int)) fun (yt_18 : Go.Proofs.Ytpcdaoeijlifmaa.PComb.Comb) =>
  unComb yt_18 fun (t_18_id : Int) (t_18_wide : Int) (t_18_high : Int) (t_18_line : Bool) =>
  Option.bind (Go.Proofs.Ytpcdaoeijlifmaa.GlEqComb.P (Go.Proofs.Ytpcdaoeijlifmaa.PComb.Comb.mk t_14_id t_14_wide t_14_high t_14_line) (Go.Proofs.Ytpcdaoeijlifmaa.PComb.Comb.mk t_18_id t_18_wide t_18_high t_18_line)) fun (t_20 : Bool) =>
  letK (!t_20) fun (t_21 : Bool) =>
  iteK t_21
  (some false)
  (appK nx0 ())

def e0  (s : Unit) : Option (Bool) :=
  
  some true

def P (a : (List Go.Proofs.Ytpcdaoeijlifmaa.PComb.Comb)) (b : (List Go.Proofs.Ytpcdaoeijlifmaa.PComb.Comb)) : Option (Bool) :=
  letK ((a.length : Int) != (b.length : Int)) fun (t_5 : Bool) =>
  iteK t_5
  (some false)
  (cntK (l0 a b) (a.length) 0 () (e0 ))

set_option maxRecDepth 100000 in
set_option maxHeartbeats 2000000 in
theorem C (a : (List Go.Proofs.Ytpcdaoeijlifmaa.PComb.Comb)) (b : (List Go.Proofs.Ytpcdaoeijlifmaa.PComb.Comb)) (A0 : Option Addr) (c0 : Nat) (A1 : Option Addr) (c1 : Nat)  (w : World) (M0 : Hid (Cells w 4 A0 a.length (Go.Proofs.Ytpcdaoeijlifmaa.PComb.flat a))) (N0 : Hid (a.length ≤ 9223372036854775807)) (M1 : Hid (Cells w 4 A1 b.length (Go.Proofs.Ytpcdaoeijlifmaa.PComb.flat b))) (N1 : Hid (b.length ≤ 9223372036854775807))  {r : Bool} (H : Hid (P a b = some r)) :
    Calls Try.prog 14 #[.slice A0 a.length c0, .slice A1 b.length c1] w (Gives (.bool r) w) := by
  have HB := Lib.hid (Below.refl w.heap.size w)
  unfold P at H
  have N0o := N0.out
  have N1o := N1.out
  go_enter Try.func14, Try.ntmps14
  replace H := let_hid H
  obtain ⟨t_5, ht_5, H⟩ := H
  cases t_5 with
  | false =>
    have Hht_5 : Hid (a.length = b.length) := Lib.hid (by have := bne_eq_false_iff_eq.1 ht_5; omega)
    have nht_5 : (a.length == b.length) = true := beq_iff_eq.2 Hht_5.out
    replace H := ite_f H
    go_wp2_with fail
    go_loopg [5] (a.length) (fun m_ v5_ wr => ∃ (k0 : Nat) , k0 + m_ = a.length ∧ v5_ = .int .i64 (k0 : Int) ∧ Hid (cntK (l0 a b) m_ k0 () (e0 ) = some r) ∧ Hid (Below w.heap.size w wr))
    case atStart => exact ⟨0, by omega, rfl, H, HB⟩
    case round =>
      obtain ⟨k0, hkm0, rfl, H, HBwr0⟩ := hrel
      rename World => wr0
      cases gk with
      | zero =>
        obtain rfl : k0 = a.length := by omega
        have hc0 : decide (((a.length : Nat) : Int) < ((a.length : Nat) : Int)) = false := by simp
        replace H := cnt_zero H
        unfold e0 at H
        obtain rfl := ret_hid H
        go_wp2_with fail
        go_ret
        exact ⟨rfl, HBwr0.out⟩
      | succ m0 =>
        have hlt0 : k0 < a.length := by omega
        have hc0 : decide ((k0 : Int) < ((a.length : Nat) : Int)) = true := by simp; omega
        replace H := cnt_succ H
        unfold l0 at H
        go_wp2_with fail
        replace H := idx_hid H
        obtain ⟨nt_14, yt_14, et_14, lt_14, gt_14, H⟩ := H
        obtain rfl : k0 = nt_14 := by omega
        clear et_14
        obtain ⟨t_14_id, t_14_wide, t_14_high, t_14_line⟩ := yt_14
        replace H := unComb_hid H
        obtain ⟨ab_t_14, ao_t_14, zt_14, At_14, z_t_14, ct_14_0, ct_14_1, ct_14_2, ct_14_3⟩ := Go.Proofs.Ytpcdaoeijlifmaa.OComb.at_ M0.out lt_14
        obtain rfl := Option.some.inj (gt_14.out.symm.trans z_t_14)
        subst At_14
        have ltt_14 := cell_lt ct_14_0
        replace ct_14_0 := cell_below HBwr0.out ct_14_0
        replace ct_14_1 := cell_below HBwr0.out ct_14_1
        replace ct_14_2 := cell_below HBwr0.out ct_14_2
        replace ct_14_3 := cell_below HBwr0.out ct_14_3
        clear z_t_14
        have b0t_14 : (0 : Int) ≤ (k0 : Int) := by omega
        have b1t_14 : (k0 : Int) < ((a.length : Nat) : Int) := by omega
        have b2t_14 : ((k0 : Int)).toNat = k0 := by omega
        have Hct_14_0 := Lib.hid ct_14_0
        replace ct_14_0 := cell_regrown ct_14_0
        have Hct_14_1 := Lib.hid ct_14_1
        replace ct_14_1 := cell_regrown ct_14_1
        have Hct_14_2 := Lib.hid ct_14_2
        replace ct_14_2 := cell_regrown ct_14_2
        have Hct_14_3 := Lib.hid ct_14_3
        replace ct_14_3 := cell_regrown ct_14_3
        replace H := idx_hid H
        obtain ⟨nt_18, yt_18, et_18, lt_18, gt_18, H⟩ := H
        obtain rfl : k0 = nt_18 := by omega
        clear et_18
        obtain ⟨t_18_id, t_18_wide, t_18_high, t_18_line⟩ := yt_18
        replace H := unComb_hid H
        obtain ⟨ab_t_18, ao_t_18, zt_18, At_18, z_t_18, ct_18_0, ct_18_1, ct_18_2, ct_18_3⟩ := Go.Proofs.Ytpcdaoeijlifmaa.OComb.at_ M1.out lt_18
        obtain rfl := Option.some.inj (gt_18.out.symm.trans z_t_18)
        subst At_18
        have ltt_18 := cell_lt ct_18_0
        replace ct_18_0 := cell_below HBwr0.out ct_18_0
        replace ct_18_1 := cell_below HBwr0.out ct_18_1
        replace ct_18_2 := cell_below HBwr0.out ct_18_2
        replace ct_18_3 := cell_below HBwr0.out ct_18_3
        clear z_t_18
        have b0t_18 : (0 : Int) ≤ (k0 : Int) := by omega
        have b1t_18 : (k0 : Int) < ((b.length : Nat) : Int) := by omega
        have b2t_18 : ((k0 : Int)).toNat = k0 := by omega
        have Hct_18_0 := Lib.hid ct_18_0
        replace ct_18_0 := cell_regrown ct_18_0
        have Hct_18_1 := Lib.hid ct_18_1
        replace ct_18_1 := cell_regrown ct_18_1
        have Hct_18_2 := Lib.hid ct_18_2
        replace ct_18_2 := cell_regrown ct_18_2
        have Hct_18_3 := Lib.hid ct_18_3
        replace ct_18_3 := cell_regrown ct_18_3
        replace H := bind_hid H
        obtain ⟨t_20, qt_20, H⟩ := H
        have nt_20 : ∀ d os, Calls Try.prog 58 #[.agg #[.int .i64 t_14_id, .int .i64 t_14_wide, .int .i64 t_14_high, .bool t_14_line], .agg #[.int .i64 t_18_id, .int .i64 t_18_wide, .int .i64 t_18_high, .bool t_18_line]] (Go.Sort.grow (redrawn wr0 d) os) fun e w'' => e = .returned (.bool t_20) ∧ ∃ p : Regrown, w'' = Go.Sort.grow (redrawn wr0 p.d) p.os := fun d os => Calls.regrown_of (Go.Proofs.Ytpcdaoeijlifmaa.GlEqComb.C ((Go.Proofs.Ytpcdaoeijlifmaa.PComb.Comb.mk t_14_id t_14_wide t_14_high t_14_line)) ((Go.Proofs.Ytpcdaoeijlifmaa.PComb.Comb.mk t_18_id t_18_wide t_18_high t_18_line))  _    qt_20)
        cases t_20 with
        | false =>
          replace H := let_hid H
          obtain ⟨t_21, ht_21, H⟩ := H
          obtain rfl : t_21 = true := ht_21.symm
          refine wp_region_quiet_below (by kernel_rfl) (by kernel_rfl) ?_
          repeat (go_big_quiet_step (first | (go_at_call 58; exact nt_20 _ _)))
          refine wpQuiet_nil ?_
          intro Y6 hY6
          replace hY6 := below_class hY6
          clear nt_20
          replace ct_14_0 := Hct_14_0.out
          clear Hct_14_0
          replace ct_14_1 := Hct_14_1.out
          clear Hct_14_1
          replace ct_14_2 := Hct_14_2.out
          clear Hct_14_2
          replace ct_14_3 := Hct_14_3.out
          clear Hct_14_3
          replace ct_18_0 := Hct_18_0.out
          clear Hct_18_0
          replace ct_18_1 := Hct_18_1.out
          clear Hct_18_1
          replace ct_18_2 := Hct_18_2.out
          clear Hct_18_2
          replace ct_18_3 := Hct_18_3.out
          clear Hct_18_3
          have HBY6 := Lib.hid (Below.step HBwr0.out hY6)
          replace ct_14_0 := cell_below hY6 ct_14_0
          replace ct_14_1 := cell_below hY6 ct_14_1
          replace ct_14_2 := cell_below hY6 ct_14_2
          replace ct_14_3 := cell_below hY6 ct_14_3
          replace ct_18_0 := cell_below hY6 ct_18_0
          replace ct_18_1 := cell_below hY6 ct_18_1
          replace ct_18_2 := cell_below hY6 ct_18_2
          replace ct_18_3 := cell_below hY6 ct_18_3
          clear hY6
          replace H := ite_t H
          obtain rfl := ret_hid H
          go_wp2_with fail
          go_ret
          exact ⟨rfl, HBY6.out⟩
        | true =>
          replace H := let_hid H
          obtain ⟨t_21, ht_21, H⟩ := H
          obtain rfl : t_21 = false := ht_21.symm
          refine wp_region_quiet_below (by kernel_rfl) (by kernel_rfl) ?_
          repeat (go_big_quiet_step (first | (go_at_call 58; exact nt_20 _ _)))
          refine wpQuiet_nil ?_
          intro Y6 hY6
          replace hY6 := below_class hY6
          clear nt_20
          replace ct_14_0 := Hct_14_0.out
          clear Hct_14_0
          replace ct_14_1 := Hct_14_1.out
          clear Hct_14_1
          replace ct_14_2 := Hct_14_2.out
          clear Hct_14_2
          replace ct_14_3 := Hct_14_3.out
          clear Hct_14_3
          replace ct_18_0 := Hct_18_0.out
          clear Hct_18_0
          replace ct_18_1 := Hct_18_1.out
          clear Hct_18_1
          replace ct_18_2 := Hct_18_2.out
          clear Hct_18_2
          replace ct_18_3 := Hct_18_3.out
          clear Hct_18_3
          have HBY6 := Lib.hid (Below.step HBwr0.out hY6)
          replace ct_14_0 := cell_below hY6 ct_14_0
          replace ct_14_1 := cell_below hY6 ct_14_1
          replace ct_14_2 := cell_below hY6 ct_14_2
          replace ct_14_3 := cell_below hY6 ct_14_3
          replace ct_18_0 := cell_below hY6 ct_18_0
          replace ct_18_1 := cell_below hY6 ct_18_1
          replace ct_18_2 := cell_below hY6 ct_18_2
          replace ct_18_3 := cell_below hY6 ct_18_3
          clear hY6
          replace H := ite_f H
          replace H := app_hid H
          go_wp2_with fail
          go_roundg m0
          case measure => omega
          case rel => exact ⟨k0 + 1, by omega, by go_num, H, HBY6⟩
  | true =>
    have nht_5 : ¬ (a.length = b.length) := by have := bne_iff_ne.1 ht_5; omega
    replace H := ite_t H
    obtain rfl := ret_hid H
    go_wp2_with fail
    go_ret
    exact ⟨rfl, HB.out⟩
end Go.Proofs.Ytpcdaoeijlifmaa.GlEqCombS

/- loop.example/g01062/laws.markCombS as a plain function, and the contract of the program's: where the plain one has an answer, the program has it. Conditions: slices read as lists. -/
namespace Go.Proofs.Ytpcdaoeijlifmaa.GlMarkCombS
set_option linter.unusedVariables false
set_option linter.unusedSimpArgs false
open Go.RowKit
open Go.Proofs.Ytpcdaoeijlifmaa.Rowed Go.Proofs.Ytpcdaoeijlifmaa.Turn Go.Proofs.Ytpcdaoeijlifmaa.Aid Go.Proofs.Ytpcdaoeijlifmaa.GoP Go.Proofs.Ytpcdaoeijlifmaa.GoM

def l0  (k0 : Nat) (s : (List Go.Proofs.Ytpcdaoeijlifmaa.PComb.Comb) × Int) (nx0 bk0 : (List Go.Proofs.Ytpcdaoeijlifmaa.PComb.Comb) × Int → Option (Int × (List Go.Proofs.Ytpcdaoeijlifmaa.PComb.Comb))) : Option (Int × (List Go.Proofs.Ytpcdaoeijlifmaa.PComb.Comb)) :=
  unp2 s fun a_0l0 k_1l0 =>
  Option.bind (idx a_0l0 (k0 : Int)) fun (yt_9 : Go.Proofs.Ytpcdaoeijlifmaa.PComb.Comb) =>
  unComb yt_9 fun (t_9_id : Int) (t_9_wide : Int) (t_9_high : Int) (t_9_line : Bool) =>
  letK (a_0l0.set k0 (Go.Proofs.Ytpcdaoeijlifmaa.PComb.Comb.mk k_1l0 t_9_wide t_9_high t_9_line)) fun (l11_11 : (List Go.Proofs.Ytpcdaoeijlifmaa.PComb.Comb)) =>
  letK (IntKind.i64.wrap (k_1l0 + 1)) fun (t_13 : Int) =>
  Option.bind (idx l11_11 (k0 : Int)) fun (yt_18 : Go.Proofs.Ytpcdaoeijlifmaa.PComb.Comb) =>
  unComb yt_18 fun (t_18_id : Int) (t_18_wide : Int) (t_18_high : Int) (t_18_line : Bool) =>
  letK (l11_11.set k0 (Go.Proofs.Ytpcdaoeijlifmaa.PComb.Comb.mk t_18_id t_13 t_18_high t_18_line)) fun (l20_20 : (List Go.Proofs.Ytpcdaoeijlifmaa.PComb.Comb)) =>
  letK (IntKind.i64.wrap (t_13 + 1)) fun (t_22 : Int) =>
  Option.bind (idx l20_20 (k0 : Int)) fun (yt_27 : Go.Proofs.Ytpcdaoeijlifmaa.PComb.Comb) =>
  unComb yt_27 fun (t_27_id : Int) (t_27_wide : Int) (t_27_high : Int) (t_27_line : Bool) =>
  letK (l20_20.set k0 (Go.Proofs.Ytpcdaoeijlifmaa.PComb.Comb.mk t_27_id t_27_wide t_22 t_27_line)) fun (l29_29 : (List Go.Proofs.Ytpcdaoeijlifmaa.PComb.Comb)) =>
  letK (IntKind.i64.wrap (t_22 + 1)) fun (t_31 : Int) =>
  letK (Int.tmod t_31 3) fun (t_36 : Int) =>
  letK (t_36 == 0) fun (t_37 : Bool) =>
  Option.bind (idx l29_29 (k0 : Int)) fun (yt_38 : Go.Proofs.Ytpcdaoeijlifmaa.PComb.Comb) =>
  unComb yt_38 fun (t_38_id : Int) (t_38_wide : Int) (t_38_high : Int) (t_38_line : Bool) =>
  letK (l29_29.set k0 (Go.Proofs.Ytpcdaoeijlifmaa.PComb.Comb.mk t_38_id t_38_wide t_38_high t_37)) fun (l40_40 : (List Go.Proofs.Ytpcdaoeijlifmaa.PComb.Comb)) =>
  letK (IntKind.i64.wrap (t_31 + 1)) fun (t_42 : Int) =>
  appK nx0 (l40_40, t_42)

def e0  (s : (List Go.Proofs.Ytpcdaoeijlifmaa.PComb.Comb) × Int) : Option (Int × (List Go.Proofs.Ytpcdaoeijlifmaa.PComb.Comb)) :=
  unp2 s fun a_0l0 k_1l0 =>
  some (k_1l0, a_0l0)

def P (a : (List Go.Proofs.Ytpcdaoeijlifmaa.PComb.Comb)) (k_1 : Int) : Option (Int × (List Go.Proofs.Ytpcdaoeijlifmaa.PComb.Comb)) :=
  cntK (l0 ) (a.length) 0 (a, k_1) (e0 )

set_option maxRecDepth 100000 in
set_option maxHeartbeats 2000000 in
theorem C (a : (List Go.Proofs.Ytpcdaoeijlifmaa.PComb.Comb)) (k_1 : Int) (A0 : Option Addr) (c0 : Nat)  (b0 : Nat) (w : World) (M0 : Hid (w.ownsRow b0 78 4 (.slice A0 a.length c0) a.length (Go.Proofs.Ytpcdaoeijlifmaa.PComb.flat a))) (N0 : Hid (a.length ≤ 9223372036854775807))  {r : Int} {l_ : (List Go.Proofs.Ytpcdaoeijlifmaa.PComb.Comb)} (H : Hid (P a k_1 = some (r, l_))) :
    Calls Try.prog 15 #[.slice A0 a.length c0, .int .i64 k_1] w (fun e w' => e = .returned (.int .i64 r) ∧ w'.ownsRow b0 78 4 (.slice A0 a.length c0) a.length (Go.Proofs.Ytpcdaoeijlifmaa.PComb.flat l_) ∧ l_.length = a.length ∧ w.grownBy w' (Value.slice A0 a.length c0).ownBlock) := by
  have HB := Lib.hid (Aid.grown_refl w (Value.slice A0 a.length c0).ownBlock)
  unfold P at H
  have N0o := N0.out
  go_enter Try.func15, Try.ntmps15
  go_wp2_with fail
  have hb_0 : a.length ≤ 9223372036854775807 := own_max M0.out
  go_wp2_with fail
  go_loopg [5, 1] (a.length) (fun m_ v5_ v1_ wr => ∃ (k0 : Nat) (a_0l0 : (List Go.Proofs.Ytpcdaoeijlifmaa.PComb.Comb)) (k_1l0 : Int), k0 + m_ = a.length ∧ v5_ = .int .i64 (k0 : Int) ∧ v1_ = .int .i64 k_1l0 ∧ Hid (cntK (l0 ) m_ k0 (a_0l0, k_1l0) (e0 ) = some (r, l_)) ∧ Hid (w.grownBy wr (Value.slice A0 a.length c0).ownBlock) ∧ Hid (wr.ownsRow b0 78 4 (.slice A0 a.length c0) a.length (Go.Proofs.Ytpcdaoeijlifmaa.PComb.flat a_0l0)) ∧ Hid (a_0l0.length = a.length))
  case atStart => exact ⟨0, _, _, by omega, rfl, rfl, H, HB, M0, Lib.hid (rfl)⟩
  case round =>
    obtain ⟨k0, a_0l0, k_1l0, hkm0, rfl, rfl, H, HBwr0, Oa_0l0, hna_0l0⟩ := hrel
    rename World => wr0
    cases gk with
    | zero =>
      obtain rfl : k0 = a.length := by omega
      have hc0 : decide (((a.length : Nat) : Int) < ((a.length : Nat) : Int)) = false := by simp
      replace H := cnt_zero H
      unfold e0 at H
      replace H := unp2_hid H
      cases ret_hid H
      go_wp2_with fail
      go_ret
      exact ⟨rfl, Oa_0l0.out, hna_0l0.out, HBwr0.out⟩
    | succ m0 =>
      have hlt0 : k0 < a.length := by omega
      have hc0 : decide ((k0 : Int) < ((a.length : Nat) : Int)) = true := by simp; omega
      replace H := cnt_succ H
      unfold l0 at H
      replace H := unp2_hid H
      replace H := idx_hid H
      obtain ⟨nt_9, yt_9, et_9, lt_9, gt_9, H⟩ := H
      obtain rfl : k0 = nt_9 := by omega
      clear et_9
      obtain ⟨t_9_id, t_9_wide, t_9_high, t_9_line⟩ := yt_9
      replace H := unComb_hid H
      have hqt_9 := hna_0l0.out
      obtain ⟨qt_9, Qt_9⟩ := own_some Oa_0l0.out (by omega)
      subst Qt_9
      obtain ⟨ab_t_9, ao_t_9, zt_9, At_9, z_t_9, ct_9_0, ct_9_1, ct_9_2, ct_9_3⟩ := Go.Proofs.Ytpcdaoeijlifmaa.OComb.at_ (own_cells Oa_0l0.out) (k := k0) (by omega)
      obtain rfl := Option.some.inj (gt_9.out.symm.trans z_t_9)
      simp only [Option.some.injEq, Addr.mk.injEq] at At_9
      obtain ⟨rfl, rfl, _⟩ := At_9
      clear z_t_9
      simp only [Nat.zero_add] at ct_9_0 ct_9_1 ct_9_2 ct_9_3
      have b0t_9 : (0 : Int) ≤ (k0 : Int) := by omega
      have b1t_9 : (k0 : Int) < ((a.length : Nat) : Int) := by omega
      have b2t_9 : ((k0 : Int)).toNat = k0 := by omega
      clear hqt_9
      replace H := let_hid H
      obtain ⟨l11_11, hl11_11, H⟩ := H
      obtain ⟨wl11_11, hwl11_11⟩ : ∃ x, (wr0).setCell ⟨qt_9, k0 * 4, none⟩ (.int .i64 k_1l0) = x := ⟨_, rfl⟩
      have z0l11_11 := Oa_0l0.out.frozenAt (k0 * 4)
      have Sl11_11 := Lib.hid (own_stores [(k0 * 4, .int .i64 k_1l0)] Oa_0l0.out)
      have nl11_11 : Hid (l11_11.length = a.length) := Lib.hid (by rw [← hl11_11, List.length_set]; exact hna_0l0.out)
      have Pl11_11 : Hid (wl11_11.ownsRow b0 78 4 (.slice (some ⟨qt_9, 0, none⟩) a.length c0) a.length (Go.Proofs.Ytpcdaoeijlifmaa.PComb.flat l11_11)) := Lib.hid (by have es_ := set_self gt_9.out; have e0_ := flat_set Go.Proofs.Ytpcdaoeijlifmaa.PComb.Comb.cells 4 (fun _ => rfl) a_0l0 (k0) 0 (Go.Proofs.Ytpcdaoeijlifmaa.PComb.Comb.mk t_9_id t_9_wide t_9_high t_9_line) (Go.Proofs.Ytpcdaoeijlifmaa.PComb.Comb.mk k_1l0 t_9_wide t_9_high t_9_line) (.int .i64 k_1l0) lt_9 (by decide) rfl; rw [es_] at e0_; have e_ : ([(k0 * 4, .int .i64 k_1l0)] : List (Nat × Value)).foldl (fun xs p => xs.set p.1 p.2) (Go.Proofs.Ytpcdaoeijlifmaa.PComb.flat a_0l0) = (Go.Proofs.Ytpcdaoeijlifmaa.PComb.flat l11_11) := (by rw [← hl11_11]; show _ = List.flatMap Go.Proofs.Ytpcdaoeijlifmaa.PComb.Comb.cells _; rw [← e0_]; first | done | rfl); rw [← hwl11_11, ← e_]; exact Sl11_11.out.1)
      have Gl11_11 : Hid (wr0.grownBy wl11_11 (Value.slice (some ⟨qt_9, 0, none⟩) a.length c0).ownBlock) := Lib.hid (by rw [← hwl11_11]; exact Sl11_11.out.2)
      have HBwl11_11 := Lib.hid (Aid.grown_tr HBwr0.out Gl11_11.out)
      have hhl11_11 := Lib.hid hl11_11
      clear hl11_11 Sl11_11
      clear Oa_0l0 Gl11_11
      replace H := let_hid H
      obtain ⟨t_13, ht_13, H⟩ := H
      replace H := idx_hid H
      obtain ⟨nt_18, yt_18, et_18, lt_18, gt_18, H⟩ := H
      obtain rfl : k0 = nt_18 := by omega
      clear et_18
      obtain ⟨t_18_id, t_18_wide, t_18_high, t_18_line⟩ := yt_18
      replace H := unComb_hid H
      have hqt_18 := nl11_11.out
      obtain ⟨ab_t_18, ao_t_18, zt_18, At_18, z_t_18, ct_18_0, ct_18_1, ct_18_2, ct_18_3⟩ := Go.Proofs.Ytpcdaoeijlifmaa.OComb.at_ (own_cells Pl11_11.out) (k := k0) (by omega)
      obtain rfl := Option.some.inj (gt_18.out.symm.trans z_t_18)
      simp only [Option.some.injEq, Addr.mk.injEq] at At_18
      obtain ⟨rfl, rfl, _⟩ := At_18
      clear z_t_18
      simp only [Nat.zero_add] at ct_18_0 ct_18_1 ct_18_2 ct_18_3
      have b0t_18 : (0 : Int) ≤ (k0 : Int) := by omega
      have b1t_18 : (k0 : Int) < ((a.length : Nat) : Int) := by omega
      have b2t_18 : ((k0 : Int)).toNat = k0 := by omega
      clear hqt_18
      replace H := let_hid H
      obtain ⟨l20_20, hl20_20, H⟩ := H
      obtain ⟨wl20_20, hwl20_20⟩ : ∃ x, (wl11_11).setCell ⟨qt_9, k0 * 4 + 1, none⟩ (.int .i64 t_13) = x := ⟨_, rfl⟩
      have z0l20_20 := Pl11_11.out.frozenAt (k0 * 4 + 1)
      have Sl20_20 := Lib.hid (own_stores [(k0 * 4 + 1, .int .i64 t_13)] Pl11_11.out)
      have nl20_20 : Hid (l20_20.length = a.length) := Lib.hid (by rw [← hl20_20, List.length_set]; exact nl11_11.out)
      have Pl20_20 : Hid (wl20_20.ownsRow b0 78 4 (.slice (some ⟨qt_9, 0, none⟩) a.length c0) a.length (Go.Proofs.Ytpcdaoeijlifmaa.PComb.flat l20_20)) := Lib.hid (by have es_ := set_self gt_18.out; have e0_ := flat_set Go.Proofs.Ytpcdaoeijlifmaa.PComb.Comb.cells 4 (fun _ => rfl) l11_11 (k0) 1 (Go.Proofs.Ytpcdaoeijlifmaa.PComb.Comb.mk t_18_id t_18_wide t_18_high t_18_line) (Go.Proofs.Ytpcdaoeijlifmaa.PComb.Comb.mk t_18_id t_13 t_18_high t_18_line) (.int .i64 t_13) lt_18 (by decide) rfl; rw [es_] at e0_; have e_ : ([(k0 * 4 + 1, .int .i64 t_13)] : List (Nat × Value)).foldl (fun xs p => xs.set p.1 p.2) (Go.Proofs.Ytpcdaoeijlifmaa.PComb.flat l11_11) = (Go.Proofs.Ytpcdaoeijlifmaa.PComb.flat l20_20) := (by rw [← hl20_20]; show _ = List.flatMap Go.Proofs.Ytpcdaoeijlifmaa.PComb.Comb.cells _; rw [← e0_]; first | done | rfl); rw [← hwl20_20, ← e_]; exact Sl20_20.out.1)
      have Gl20_20 : Hid (wl11_11.grownBy wl20_20 (Value.slice (some ⟨qt_9, 0, none⟩) a.length c0).ownBlock) := Lib.hid (by rw [← hwl20_20]; exact Sl20_20.out.2)
      have HBwl20_20 := Lib.hid (Aid.grown_tr HBwl11_11.out Gl20_20.out)
      have hhl20_20 := Lib.hid hl20_20
      clear hl20_20 Sl20_20
      clear Pl11_11 Gl20_20
      replace H := let_hid H
      obtain ⟨t_22, ht_22, H⟩ := H
      replace H := idx_hid H
      obtain ⟨nt_27, yt_27, et_27, lt_27, gt_27, H⟩ := H
      obtain rfl : k0 = nt_27 := by omega
      clear et_27
      obtain ⟨t_27_id, t_27_wide, t_27_high, t_27_line⟩ := yt_27
      replace H := unComb_hid H
      have hqt_27 := nl20_20.out
      obtain ⟨ab_t_27, ao_t_27, zt_27, At_27, z_t_27, ct_27_0, ct_27_1, ct_27_2, ct_27_3⟩ := Go.Proofs.Ytpcdaoeijlifmaa.OComb.at_ (own_cells Pl20_20.out) (k := k0) (by omega)
      obtain rfl := Option.some.inj (gt_27.out.symm.trans z_t_27)
      simp only [Option.some.injEq, Addr.mk.injEq] at At_27
      obtain ⟨rfl, rfl, _⟩ := At_27
      clear z_t_27
      simp only [Nat.zero_add] at ct_27_0 ct_27_1 ct_27_2 ct_27_3
      have b0t_27 : (0 : Int) ≤ (k0 : Int) := by omega
      have b1t_27 : (k0 : Int) < ((a.length : Nat) : Int) := by omega
      have b2t_27 : ((k0 : Int)).toNat = k0 := by omega
      clear hqt_27
      replace H := let_hid H
      obtain ⟨l29_29, hl29_29, H⟩ := H
      obtain ⟨wl29_29, hwl29_29⟩ : ∃ x, (wl20_20).setCell ⟨qt_9, k0 * 4 + 2, none⟩ (.int .i64 t_22) = x := ⟨_, rfl⟩
      have z0l29_29 := Pl20_20.out.frozenAt (k0 * 4 + 2)
      have Sl29_29 := Lib.hid (own_stores [(k0 * 4 + 2, .int .i64 t_22)] Pl20_20.out)
      have nl29_29 : Hid (l29_29.length = a.length) := Lib.hid (by rw [← hl29_29, List.length_set]; exact nl20_20.out)
      have Pl29_29 : Hid (wl29_29.ownsRow b0 78 4 (.slice (some ⟨qt_9, 0, none⟩) a.length c0) a.length (Go.Proofs.Ytpcdaoeijlifmaa.PComb.flat l29_29)) := Lib.hid (by have es_ := set_self gt_27.out; have e0_ := flat_set Go.Proofs.Ytpcdaoeijlifmaa.PComb.Comb.cells 4 (fun _ => rfl) l20_20 (k0) 2 (Go.Proofs.Ytpcdaoeijlifmaa.PComb.Comb.mk t_27_id t_27_wide t_27_high t_27_line) (Go.Proofs.Ytpcdaoeijlifmaa.PComb.Comb.mk t_27_id t_27_wide t_22 t_27_line) (.int .i64 t_22) lt_27 (by decide) rfl; rw [es_] at e0_; have e_ : ([(k0 * 4 + 2, .int .i64 t_22)] : List (Nat × Value)).foldl (fun xs p => xs.set p.1 p.2) (Go.Proofs.Ytpcdaoeijlifmaa.PComb.flat l20_20) = (Go.Proofs.Ytpcdaoeijlifmaa.PComb.flat l29_29) := (by rw [← hl29_29]; show _ = List.flatMap Go.Proofs.Ytpcdaoeijlifmaa.PComb.Comb.cells _; rw [← e0_]; first | done | rfl); rw [← hwl29_29, ← e_]; exact Sl29_29.out.1)
      have Gl29_29 : Hid (wl20_20.grownBy wl29_29 (Value.slice (some ⟨qt_9, 0, none⟩) a.length c0).ownBlock) := Lib.hid (by rw [← hwl29_29]; exact Sl29_29.out.2)
      have HBwl29_29 := Lib.hid (Aid.grown_tr HBwl20_20.out Gl29_29.out)
      have hhl29_29 := Lib.hid hl29_29
      clear hl29_29 Sl29_29
      clear Pl20_20 Gl29_29
      replace H := let_hid H
      obtain ⟨t_31, ht_31, H⟩ := H
      replace H := let_hid H
      obtain ⟨t_36, ht_36, H⟩ := H
      replace H := let_hid H
      obtain ⟨t_37, ht_37, H⟩ := H
      replace H := idx_hid H
      obtain ⟨nt_38, yt_38, et_38, lt_38, gt_38, H⟩ := H
      obtain rfl : k0 = nt_38 := by omega
      clear et_38
      obtain ⟨t_38_id, t_38_wide, t_38_high, t_38_line⟩ := yt_38
      replace H := unComb_hid H
      have hqt_38 := nl29_29.out
      obtain ⟨ab_t_38, ao_t_38, zt_38, At_38, z_t_38, ct_38_0, ct_38_1, ct_38_2, ct_38_3⟩ := Go.Proofs.Ytpcdaoeijlifmaa.OComb.at_ (own_cells Pl29_29.out) (k := k0) (by omega)
      obtain rfl := Option.some.inj (gt_38.out.symm.trans z_t_38)
      simp only [Option.some.injEq, Addr.mk.injEq] at At_38
      obtain ⟨rfl, rfl, _⟩ := At_38
      clear z_t_38
      simp only [Nat.zero_add] at ct_38_0 ct_38_1 ct_38_2 ct_38_3
      have b0t_38 : (0 : Int) ≤ (k0 : Int) := by omega
      have b1t_38 : (k0 : Int) < ((a.length : Nat) : Int) := by omega
      have b2t_38 : ((k0 : Int)).toNat = k0 := by omega
      clear hqt_38
      replace H := let_hid H
      obtain ⟨l40_40, hl40_40, H⟩ := H
      obtain ⟨wl40_40, hwl40_40⟩ : ∃ x, (wl29_29).setCell ⟨qt_9, k0 * 4 + 3, none⟩ (.bool t_37) = x := ⟨_, rfl⟩
      have z0l40_40 := Pl29_29.out.frozenAt (k0 * 4 + 3)
      have Sl40_40 := Lib.hid (own_stores [(k0 * 4 + 3, .bool t_37)] Pl29_29.out)
      have nl40_40 : Hid (l40_40.length = a.length) := Lib.hid (by rw [← hl40_40, List.length_set]; exact nl29_29.out)
      have Pl40_40 : Hid (wl40_40.ownsRow b0 78 4 (.slice (some ⟨qt_9, 0, none⟩) a.length c0) a.length (Go.Proofs.Ytpcdaoeijlifmaa.PComb.flat l40_40)) := Lib.hid (by have es_ := set_self gt_38.out; have e0_ := flat_set Go.Proofs.Ytpcdaoeijlifmaa.PComb.Comb.cells 4 (fun _ => rfl) l29_29 (k0) 3 (Go.Proofs.Ytpcdaoeijlifmaa.PComb.Comb.mk t_38_id t_38_wide t_38_high t_38_line) (Go.Proofs.Ytpcdaoeijlifmaa.PComb.Comb.mk t_38_id t_38_wide t_38_high t_37) (.bool t_37) lt_38 (by decide) rfl; rw [es_] at e0_; have e_ : ([(k0 * 4 + 3, .bool t_37)] : List (Nat × Value)).foldl (fun xs p => xs.set p.1 p.2) (Go.Proofs.Ytpcdaoeijlifmaa.PComb.flat l29_29) = (Go.Proofs.Ytpcdaoeijlifmaa.PComb.flat l40_40) := (by rw [← hl40_40]; show _ = List.flatMap Go.Proofs.Ytpcdaoeijlifmaa.PComb.Comb.cells _; rw [← e0_]; first | done | rfl); rw [← hwl40_40, ← e_]; exact Sl40_40.out.1)
      have Gl40_40 : Hid (wl29_29.grownBy wl40_40 (Value.slice (some ⟨qt_9, 0, none⟩) a.length c0).ownBlock) := Lib.hid (by rw [← hwl40_40]; exact Sl40_40.out.2)
      have HBwl40_40 := Lib.hid (Aid.grown_tr HBwl29_29.out Gl40_40.out)
      have hhl40_40 := Lib.hid hl40_40
      clear hl40_40 Sl40_40
      clear Pl29_29 Gl40_40
      replace H := let_hid H
      obtain ⟨t_42, ht_42, H⟩ := H
      replace H := app_hid H
      go_wp2_with fail
      clear z0l11_11 ct_9_0 ct_9_1 ct_9_2 ct_9_3 z0l20_20 ct_18_0 ct_18_1 ct_18_2 ct_18_3 z0l29_29 ct_27_0 ct_27_1 ct_27_2 ct_27_3 z0l40_40 ct_38_0 ct_38_1 ct_38_2 ct_38_3
      go_roundg m0
      case measure => omega
      case rel => exact ⟨k0 + 1, _, _, by omega, by go_num, rfl, H, HBwl40_40, Pl40_40, Lib.hid (nl40_40.out)⟩
end Go.Proofs.Ytpcdaoeijlifmaa.GlMarkCombS

/- loop.example/g01062/laws.markIntS as a plain function, and the contract of the program's: where the plain one has an answer, the program has it. Conditions: slices read as lists. -/
namespace Go.Proofs.Ytpcdaoeijlifmaa.GlMarkIntS
set_option linter.unusedVariables false
set_option linter.unusedSimpArgs false
open Go.RowKit
open Go.Proofs.Ytpcdaoeijlifmaa.Rowed Go.Proofs.Ytpcdaoeijlifmaa.Turn Go.Proofs.Ytpcdaoeijlifmaa.Aid Go.Proofs.Ytpcdaoeijlifmaa.GoP Go.Proofs.Ytpcdaoeijlifmaa.GoM

def l0  (k0 : Nat) (s : (List Int) × Int) (nx0 bk0 : (List Int) × Int → Option (Int × (List Int))) : Option (Int × (List Int)) :=
  unp2 s fun a_0l0 k_1l0 =>
  Option.bind (idx a_0l0 (k0 : Int)) fun (yt_9 : Int) =>
  letK (a_0l0.set k0 k_1l0) fun (l10_10 : (List Int)) =>
  letK (IntKind.i64.wrap (k_1l0 + 1)) fun (t_12 : Int) =>
  appK nx0 (l10_10, t_12)

def e0  (s : (List Int) × Int) : Option (Int × (List Int)) :=
  unp2 s fun a_0l0 k_1l0 =>
  some (k_1l0, a_0l0)

def P (a : (List Int)) (k_1 : Int) : Option (Int × (List Int)) :=
  cntK (l0 ) (a.length) 0 (a, k_1) (e0 )

set_option maxRecDepth 100000 in
set_option maxHeartbeats 2000000 in
theorem C (a : (List Int)) (k_1 : Int) (A0 : Option Addr) (c0 : Nat)  (b0 : Nat) (w : World) (M0 : Hid (w.ownsRow b0 3 1 (.slice A0 a.length c0) a.length (Go.Proofs.Ytpcdaoeijlifmaa.HelpInt.iv a))) (N0 : Hid (a.length ≤ 9223372036854775807))  {r : Int} {l_ : (List Int)} (H : Hid (P a k_1 = some (r, l_))) :
    Calls Try.prog 49 #[.slice A0 a.length c0, .int .i64 k_1] w (fun e w' => e = .returned (.int .i64 r) ∧ w'.ownsRow b0 3 1 (.slice A0 a.length c0) a.length (Go.Proofs.Ytpcdaoeijlifmaa.HelpInt.iv l_) ∧ l_.length = a.length ∧ w.grownBy w' (Value.slice A0 a.length c0).ownBlock) := by
  have HB := Lib.hid (Aid.grown_refl w (Value.slice A0 a.length c0).ownBlock)
  unfold P at H
  have N0o := N0.out
  go_enter Try.func49, Try.ntmps49
  go_wp2_with fail
  have hb_0 : a.length ≤ 9223372036854775807 := own_max M0.out
  go_wp2_with fail
  go_loopg [5, 1] (a.length) (fun m_ v5_ v1_ wr => ∃ (k0 : Nat) (a_0l0 : (List Int)) (k_1l0 : Int), k0 + m_ = a.length ∧ v5_ = .int .i64 (k0 : Int) ∧ v1_ = .int .i64 k_1l0 ∧ Hid (cntK (l0 ) m_ k0 (a_0l0, k_1l0) (e0 ) = some (r, l_)) ∧ Hid (w.grownBy wr (Value.slice A0 a.length c0).ownBlock) ∧ Hid (wr.ownsRow b0 3 1 (.slice A0 a.length c0) a.length (Go.Proofs.Ytpcdaoeijlifmaa.HelpInt.iv a_0l0)) ∧ Hid (a_0l0.length = a.length))
  case atStart => exact ⟨0, _, _, by omega, rfl, rfl, H, HB, M0, Lib.hid (rfl)⟩
  case round =>
    obtain ⟨k0, a_0l0, k_1l0, hkm0, rfl, rfl, H, HBwr0, Oa_0l0, hna_0l0⟩ := hrel
    rename World => wr0
    cases gk with
    | zero =>
      obtain rfl : k0 = a.length := by omega
      have hc0 : decide (((a.length : Nat) : Int) < ((a.length : Nat) : Int)) = false := by simp
      replace H := cnt_zero H
      unfold e0 at H
      replace H := unp2_hid H
      cases ret_hid H
      go_wp2_with fail
      go_ret
      exact ⟨rfl, Oa_0l0.out, hna_0l0.out, HBwr0.out⟩
    | succ m0 =>
      have hlt0 : k0 < a.length := by omega
      have hc0 : decide ((k0 : Int) < ((a.length : Nat) : Int)) = true := by simp; omega
      replace H := cnt_succ H
      unfold l0 at H
      replace H := unp2_hid H
      replace H := idx_hid H
      obtain ⟨nt_9, yt_9, et_9, lt_9, gt_9, H⟩ := H
      obtain rfl : k0 = nt_9 := by omega
      clear et_9
      have hqt_9 := hna_0l0.out
      obtain ⟨qt_9, Qt_9⟩ := own_some Oa_0l0.out (by omega)
      subst Qt_9
      obtain ⟨ab_t_9, ao_t_9, zt_9, At_9, z_t_9, ct_9_0⟩ := Go.Proofs.Ytpcdaoeijlifmaa.HelpInt.Ints.at_ (own_cells Oa_0l0.out) (k := k0) (by omega)
      obtain rfl := Option.some.inj (gt_9.out.symm.trans z_t_9)
      simp only [Option.some.injEq, Addr.mk.injEq] at At_9
      obtain ⟨rfl, rfl, _⟩ := At_9
      clear z_t_9
      simp only [Nat.zero_add] at ct_9_0
      have b0t_9 : (0 : Int) ≤ (k0 : Int) := by omega
      have b1t_9 : (k0 : Int) < ((a.length : Nat) : Int) := by omega
      have b2t_9 : ((k0 : Int)).toNat = k0 := by omega
      clear hqt_9
      replace H := let_hid H
      obtain ⟨l10_10, hl10_10, H⟩ := H
      obtain ⟨wl10_10, hwl10_10⟩ : ∃ x, (wr0).setCell ⟨qt_9, k0, none⟩ (.int .i64 k_1l0) = x := ⟨_, rfl⟩
      have z0l10_10 := Oa_0l0.out.frozenAt (k0)
      have Sl10_10 := Lib.hid (own_stores [(k0, .int .i64 k_1l0)] Oa_0l0.out)
      have nl10_10 : Hid (l10_10.length = a.length) := Lib.hid (by rw [← hl10_10, List.length_set]; exact hna_0l0.out)
      have Pl10_10 : Hid (wl10_10.ownsRow b0 3 1 (.slice (some ⟨qt_9, 0, none⟩) a.length c0) a.length (Go.Proofs.Ytpcdaoeijlifmaa.HelpInt.iv l10_10)) := Lib.hid (by have e_ : ([(k0, .int .i64 k_1l0)] : List (Nat × Value)).foldl (fun xs p => xs.set p.1 p.2) (Go.Proofs.Ytpcdaoeijlifmaa.HelpInt.iv a_0l0) = (Go.Proofs.Ytpcdaoeijlifmaa.HelpInt.iv l10_10) := (by rw [← hl10_10]; first | done | simp [Go.Proofs.Ytpcdaoeijlifmaa.HelpInt.iv, List.map_set]); rw [← hwl10_10, ← e_]; exact Sl10_10.out.1)
      have Gl10_10 : Hid (wr0.grownBy wl10_10 (Value.slice (some ⟨qt_9, 0, none⟩) a.length c0).ownBlock) := Lib.hid (by rw [← hwl10_10]; exact Sl10_10.out.2)
      have HBwl10_10 := Lib.hid (Aid.grown_tr HBwr0.out Gl10_10.out)
      have hhl10_10 := Lib.hid hl10_10
      clear hl10_10 Sl10_10
      clear Oa_0l0 Gl10_10
      replace H := let_hid H
      obtain ⟨t_12, ht_12, H⟩ := H
      replace H := app_hid H
      go_wp2_with fail
      clear z0l10_10 ct_9_0
      go_roundg m0
      case measure => omega
      case rel => exact ⟨k0 + 1, _, _, by omega, by go_num, rfl, H, HBwl10_10, Pl10_10, Lib.hid (nl10_10.out)⟩
end Go.Proofs.Ytpcdaoeijlifmaa.GlMarkIntS

/- loop.example/g01062/laws.markIntSS as a plain function, and the contract of the program's: where the plain one has an answer, the program has it. Conditions: slices read as lists. -/
namespace Go.Proofs.Ytpcdaoeijlifmaa.GlMarkIntSS
set_option linter.unusedVariables false
set_option linter.unusedSimpArgs false
open Go.RowKit
open Go.Proofs.Ytpcdaoeijlifmaa.Rowed Go.Proofs.Ytpcdaoeijlifmaa.Turn Go.Proofs.Ytpcdaoeijlifmaa.Aid Go.Proofs.Ytpcdaoeijlifmaa.GoP Go.Proofs.Ytpcdaoeijlifmaa.GoM

def l0  (k0 : Nat) (s : (List (List Int)) × Int) (nx0 bk0 : (List (List Int)) × Int → Option (Int × (List (List Int)))) : Option (Int × (List (List Int))) :=
  unp2 s fun a_0l0 k_1l0 =>
  Option.bind (idx a_0l0 (k0 : Int)) fun (yt_8 : (List Int)) =>
  bind2 (Go.Proofs.Ytpcdaoeijlifmaa.GlMarkIntS.P yt_8 k_1l0) fun (t_11 : Int) (lt_11 : (List Int)) =>
  letK (a_0l0.set k0 lt_11) fun (nnt_11 : (List (List Int))) =>
  appK nx0 (nnt_11, t_11)

def e0  (s : (List (List Int)) × Int) : Option (Int × (List (List Int))) :=
  unp2 s fun a_0l0 k_1l0 =>
  some (k_1l0, a_0l0)

def P (a : (List (List Int))) (k_1 : Int) : Option (Int × (List (List Int))) :=
  cntK (l0 ) (a.length) 0 (a, k_1) (e0 )

set_option maxRecDepth 100000 in
set_option maxHeartbeats 2000000 in
theorem C (a : (List (List Int))) (k_1 : Int) (A0 : Option Addr) (c0 : Nat)  (b0 : Nat) (B0 : List (Option Addr)) (w : World) (M0 : Hid (Go.Proofs.Ytpcdaoeijlifmaa.GoN.OwnNest w (b0) 70 3 1 Go.Proofs.Ytpcdaoeijlifmaa.HelpInt.iv A0 c0 a B0)) (N0 : Hid (a.length ≤ 9223372036854775807))  {r : Int} {l_ : (List (List Int))} (H : Hid (P a k_1 = some (r, l_))) :
    Calls Try.prog 16 #[.slice A0 a.length c0, .int .i64 k_1] w (fun e w' => e = .returned (.int .i64 r) ∧ Go.Proofs.Ytpcdaoeijlifmaa.GoN.OwnNest w' (b0) 70 3 1 Go.Proofs.Ytpcdaoeijlifmaa.HelpInt.iv A0 c0 l_ B0 ∧ l_.length = a.length ∧ Go.Proofs.Ytpcdaoeijlifmaa.GoN.GrownN w w' B0) := by
  have HB := Lib.hid (Go.Proofs.Ytpcdaoeijlifmaa.GoN.grownN_refl w B0)
  unfold P at H
  have N0o := N0.out
  go_enter Try.func16, Try.ntmps16
  go_wp2_with fail
  have hb_0 : a.length ≤ 9223372036854775807 := Go.Proofs.Ytpcdaoeijlifmaa.GoN.nest_max M0.out
  go_wp2_with fail
  go_loopg [5, 1] (a.length) (fun m_ v5_ v1_ wr => ∃ (k0 : Nat) (a_0l0 : (List (List Int))) (k_1l0 : Int), k0 + m_ = a.length ∧ v5_ = .int .i64 (k0 : Int) ∧ v1_ = .int .i64 k_1l0 ∧ Hid (cntK (l0 ) m_ k0 (a_0l0, k_1l0) (e0 ) = some (r, l_)) ∧ Hid (Go.Proofs.Ytpcdaoeijlifmaa.GoN.GrownN w wr B0) ∧ Hid (Go.Proofs.Ytpcdaoeijlifmaa.GoN.OwnNest wr (b0) 70 3 1 Go.Proofs.Ytpcdaoeijlifmaa.HelpInt.iv A0 c0 a_0l0 B0) ∧ Hid (a_0l0.length = a.length))
  case atStart => exact ⟨0, _, _, by omega, rfl, rfl, H, HB, M0, Lib.hid (rfl)⟩
  case round =>
    obtain ⟨k0, a_0l0, k_1l0, hkm0, rfl, rfl, H, HBwr0, Oa_0l0, hna_0l0⟩ := hrel
    rename World => wr0
    cases gk with
    | zero =>
      obtain rfl : k0 = a.length := by omega
      have hc0 : decide (((a.length : Nat) : Int) < ((a.length : Nat) : Int)) = false := by simp
      replace H := cnt_zero H
      unfold e0 at H
      replace H := unp2_hid H
      cases ret_hid H
      go_wp2_with fail
      go_ret
      exact ⟨rfl, Oa_0l0.out, hna_0l0.out, HBwr0.out⟩
    | succ m0 =>
      have hlt0 : k0 < a.length := by omega
      have hc0 : decide ((k0 : Int) < ((a.length : Nat) : Int)) = true := by simp; omega
      replace H := cnt_succ H
      unfold l0 at H
      replace H := unp2_hid H
      replace H := idx_hid H
      obtain ⟨nt_8, yt_8, et_8, lt_8, gt_8, H⟩ := H
      obtain rfl : k0 = nt_8 := by omega
      clear et_8
      obtain ⟨gt_8_, zt_8, Art_8, crt_8, eAt_8, zzt_8, hct_8, hot_8, hmt_8, hat_8⟩ := Go.Proofs.Ytpcdaoeijlifmaa.GoN.nest_own Oa_0l0.out (k := k0) lt_8
      obtain rfl := Option.some.inj (gt_8.out.symm.trans zzt_8)
      clear zzt_8
      subst eAt_8
      have Ort_8 := Lib.hid hot_8
      have mrt_8 := Lib.hid hmt_8
      clear hot_8 hmt_8 hat_8
      have b0t_8 : (0 : Int) ≤ (k0 : Int) := by omega
      have b1t_8 : (k0 : Int) < ((a_0l0.length : Nat) : Int) := by omega
      have b2t_8 : ((k0 : Int)).toNat = k0 := by omega
      have hqt_8 := hna_0l0.out
      have b3t_8 : (k0 : Int) < ((a.length : Nat) : Int) := by omega
      clear hqt_8
      replace H := bind2_hid H
      obtain ⟨t_11, lt_11, qt_11, H⟩ := H
      go_wp2_with fail
      go_at_call 49
      refine (Go.Proofs.Ytpcdaoeijlifmaa.GlMarkIntS.C (yt_8) (k_1l0) Art_8 crt_8 b0 _   Ort_8 (Lib.hid (own_max Ort_8.out))   qt_11).mono ?_
      rintro e_t_11 wt_11 ⟨rfl, ot_11, nt_11, gt_11⟩
      have Pt_11 := Lib.hid ot_11
      have Gt_11 := Lib.hid gt_11
      replace nt_11 := Lib.hid nt_11
      clear ot_11 gt_11
      have HBwt_11 := Lib.hid (Go.Proofs.Ytpcdaoeijlifmaa.GoN.grownN_row HBwr0.out Gt_11.out mrt_8.out)
      replace H := let_hid H
      obtain ⟨nnt_11, hnnt_11, H⟩ := H
      have Nt_11 : Hid (Go.Proofs.Ytpcdaoeijlifmaa.GoN.OwnNest wt_11 (b0) 70 3 1 Go.Proofs.Ytpcdaoeijlifmaa.HelpInt.iv (some ⟨gt_8_, 0, none⟩) c0 nnt_11 B0) := Lib.hid (by rw [← hnnt_11]; exact Go.Proofs.Ytpcdaoeijlifmaa.GoN.nest_store (k := k0) Oa_0l0.out gt_8.out hct_8 Pt_11.out nt_11.out rfl Gt_11.out)
      have mt_11 : Hid (nnt_11.length = a.length) := Lib.hid (by rw [← hnnt_11, List.length_set]; exact hna_0l0.out)
      have hhnnt_11 := Lib.hid hnnt_11
      clear hnnt_11
      clear hct_8
      clear Oa_0l0
      clear Ort_8 Gt_11
      replace H := app_hid H
      go_wp2_with fail
      go_roundg m0
      case measure => omega
      case rel => exact ⟨k0 + 1, _, _, by omega, by go_num, rfl, H, HBwt_11, Nt_11, Lib.hid (mt_11.out)⟩
end Go.Proofs.Ytpcdaoeijlifmaa.GlMarkIntSS

/- loop.example/g01062/laws.heldIntS as a plain function, and the contract of the program's: where the plain one has an answer, the program has it. Conditions: slices read as lists. -/
namespace Go.Proofs.Ytpcdaoeijlifmaa.GlHeldIntS
set_option linter.unusedVariables false
set_option linter.unusedSimpArgs false
open Go.RowKit
open Go.Proofs.Ytpcdaoeijlifmaa.Rowed Go.Proofs.Ytpcdaoeijlifmaa.Turn Go.Proofs.Ytpcdaoeijlifmaa.Aid Go.Proofs.Ytpcdaoeijlifmaa.GoP Go.Proofs.Ytpcdaoeijlifmaa.GoM

def l0 (a : (List Int)) (k0 : Nat) (s : Int) (nx0 bk0 : Int → Option (Int)) : Option (Int) :=
  letK s fun k_1l0 =>
  Option.bind (idx a (k0 : Int)) fun (yt_8 : Int) =>
  letK (yt_8 != k_1l0) fun (t_11 : Bool) =>
  iteK t_11
  (some (-1))
  (letK (IntKind.i64.wrap (k_1l0 + 1)) fun (t_14 : Int) =>
  appK nx0 (t_14))

def e0  (s : Int) : Option (Int) :=
  letK s fun k_1l0 =>
  some k_1l0

def P (a : (List Int)) (k_1 : Int) : Option (Int) :=
  cntK (l0 a) (a.length) 0 (k_1) (e0 )

set_option maxRecDepth 100000 in
set_option maxHeartbeats 2000000 in
theorem C (a : (List Int)) (k_1 : Int) (A0 : Option Addr) (c0 : Nat)  (w : World) (M0 : Hid (Cells w 1 A0 a.length (Go.Proofs.Ytpcdaoeijlifmaa.HelpInt.iv a))) (N0 : Hid (a.length ≤ 9223372036854775807))  {r : Int} (H : Hid (P a k_1 = some r)) :
    Calls Try.prog 50 #[.slice A0 a.length c0, .int .i64 k_1] w (Gives (.int .i64 r) w) := by
  have HB := Lib.hid (Below.refl w.heap.size w)
  unfold P at H
  have N0o := N0.out
  go_enter Try.func50, Try.ntmps50
  go_wp2_with fail
  go_loopg [5, 1] (a.length) (fun m_ v5_ v1_ wr => ∃ (k0 : Nat) (k_1l0 : Int), k0 + m_ = a.length ∧ v5_ = .int .i64 (k0 : Int) ∧ v1_ = .int .i64 k_1l0 ∧ Hid (cntK (l0 a) m_ k0 (k_1l0) (e0 ) = some r) ∧ Hid (Below w.heap.size w wr))
  case atStart => exact ⟨0, _, by omega, rfl, rfl, H, HB⟩
  case round =>
    obtain ⟨k0, k_1l0, hkm0, rfl, rfl, H, HBwr0⟩ := hrel
    rename World => wr0
    cases gk with
    | zero =>
      obtain rfl : k0 = a.length := by omega
      have hc0 : decide (((a.length : Nat) : Int) < ((a.length : Nat) : Int)) = false := by simp
      replace H := cnt_zero H
      unfold e0 at H
      replace H := let_hid H
      obtain ⟨_, rfl, H⟩ := H
      obtain rfl := ret_hid H
      go_wp2_with fail
      go_ret
      exact ⟨rfl, HBwr0.out⟩
    | succ m0 =>
      have hlt0 : k0 < a.length := by omega
      have hc0 : decide ((k0 : Int) < ((a.length : Nat) : Int)) = true := by simp; omega
      replace H := cnt_succ H
      unfold l0 at H
      replace H := let_hid H
      obtain ⟨_, rfl, H⟩ := H
      replace H := idx_hid H
      obtain ⟨nt_8, yt_8, et_8, lt_8, gt_8, H⟩ := H
      obtain rfl : k0 = nt_8 := by omega
      clear et_8
      obtain ⟨ab_t_8, ao_t_8, zt_8, At_8, z_t_8, ct_8_0⟩ := Go.Proofs.Ytpcdaoeijlifmaa.HelpInt.Ints.at_ M0.out lt_8
      obtain rfl := Option.some.inj (gt_8.out.symm.trans z_t_8)
      subst At_8
      have ltt_8 := cell_lt ct_8_0
      replace ct_8_0 := cell_below HBwr0.out ct_8_0
      clear z_t_8
      have b0t_8 : (0 : Int) ≤ (k0 : Int) := by omega
      have b1t_8 : (k0 : Int) < ((a.length : Nat) : Int) := by omega
      have b2t_8 : ((k0 : Int)).toNat = k0 := by omega
      replace H := let_hid H
      obtain ⟨t_11, ht_11, H⟩ := H
      cases t_11 with
      | false =>
        replace H := ite_f H
        replace H := let_hid H
        obtain ⟨t_14, ht_14, H⟩ := H
        replace H := app_hid H
        go_wp2_with fail
        go_roundg m0
        case measure => omega
        case rel => exact ⟨k0 + 1, _, by omega, by go_num, rfl, H, HBwr0⟩
      | true =>
        replace H := ite_t H
        obtain rfl := ret_hid H
        go_wp2_with fail
        go_ret
        exact ⟨rfl, HBwr0.out⟩
end Go.Proofs.Ytpcdaoeijlifmaa.GlHeldIntS

/- loop.example/g01062/laws.heldIntSS as a plain function, and the contract of the program's: where the plain one has an answer, the program has it. Conditions: slices read as lists. -/
namespace Go.Proofs.Ytpcdaoeijlifmaa.GlHeldIntSS
set_option linter.unusedVariables false
set_option linter.unusedSimpArgs false
open Go.RowKit
open Go.Proofs.Ytpcdaoeijlifmaa.Rowed Go.Proofs.Ytpcdaoeijlifmaa.Turn Go.Proofs.Ytpcdaoeijlifmaa.Aid Go.Proofs.Ytpcdaoeijlifmaa.GoP Go.Proofs.Ytpcdaoeijlifmaa.GoM

def l0 (a : (List (List Int))) (k0 : Nat) (s : Int) (nx0 bk0 : Int → Option (Int)) : Option (Int) :=
  letK s fun k_1l0 =>
  Option.bind (idx a (k0 : Int)) fun (yt_8 : (List Int)) =>
  Option.bind (Go.Proofs.Ytpcdaoeijlifmaa.GlHeldIntS.P yt_8 k_1l0) fun (t_11 : Int) =>
  letK (decide (t_11 < 0)) fun (t_14 : Bool) =>
  iteK t_14
  (some (-1))
  (appK nx0 (t_11))

def e0  (s : Int) : Option (Int) :=
  letK s fun k_1l0 =>
  some k_1l0

def P (a : (List (List Int))) (k_1 : Int) : Option (Int) :=
  cntK (l0 a) (a.length) 0 (k_1) (e0 )

set_option maxRecDepth 100000 in
set_option maxHeartbeats 2000000 in
theorem C (a : (List (List Int))) (k_1 : Int) (A0 : Option Addr) (c0 : Nat)  (w : World) (M0 : Hid (Go.Proofs.Ytpcdaoeijlifmaa.GoN.ReadNest w 1 Go.Proofs.Ytpcdaoeijlifmaa.HelpInt.iv A0 a)) (N0 : Hid (a.length ≤ 9223372036854775807))  {r : Int} (H : Hid (P a k_1 = some r)) :
    Calls Try.prog 17 #[.slice A0 a.length c0, .int .i64 k_1] w (Gives (.int .i64 r) w) := by
  have HB := Lib.hid (Below.refl w.heap.size w)
  unfold P at H
  have N0o := N0.out
  go_enter Try.func17, Try.ntmps17
  go_wp2_with fail
  go_loopg [5, 1] (a.length) (fun m_ v5_ v1_ wr => ∃ (k0 : Nat) (k_1l0 : Int), k0 + m_ = a.length ∧ v5_ = .int .i64 (k0 : Int) ∧ v1_ = .int .i64 k_1l0 ∧ Hid (cntK (l0 a) m_ k0 (k_1l0) (e0 ) = some r) ∧ Hid (Below w.heap.size w wr))
  case atStart => exact ⟨0, _, by omega, rfl, rfl, H, HB⟩
  case round =>
    obtain ⟨k0, k_1l0, hkm0, rfl, rfl, H, HBwr0⟩ := hrel
    rename World => wr0
    cases gk with
    | zero =>
      obtain rfl : k0 = a.length := by omega
      have hc0 : decide (((a.length : Nat) : Int) < ((a.length : Nat) : Int)) = false := by simp
      replace H := cnt_zero H
      unfold e0 at H
      replace H := let_hid H
      obtain ⟨_, rfl, H⟩ := H
      obtain rfl := ret_hid H
      go_wp2_with fail
      go_ret
      exact ⟨rfl, HBwr0.out⟩
    | succ m0 =>
      have hlt0 : k0 < a.length := by omega
      have hc0 : decide ((k0 : Int) < ((a.length : Nat) : Int)) = true := by simp; omega
      replace H := cnt_succ H
      unfold l0 at H
      replace H := let_hid H
      obtain ⟨_, rfl, H⟩ := H
      replace H := idx_hid H
      obtain ⟨nt_8, yt_8, et_8, lt_8, gt_8, H⟩ := H
      obtain rfl : k0 = nt_8 := by omega
      clear et_8
      obtain ⟨bbt_8, oot_8, zt_8, Art_8, crt_8, eAt_8, zzt_8, hct_8, hrt_8, hqt_8, hnt_8⟩ := Go.Proofs.Ytpcdaoeijlifmaa.GoN.nest_at M0.out (k := k0) lt_8
      obtain rfl := Option.some.inj (gt_8.out.symm.trans zzt_8)
      clear zzt_8
      subst eAt_8
      have ltt_8 := cell_lt hct_8
      replace hct_8 := cell_below HBwr0.out hct_8
      have Mrt_8 := Lib.hid hrt_8
      have Qrt_8 := Lib.hid hqt_8
      have Nrt_8 := Lib.hid hnt_8
      clear hrt_8 hqt_8 hnt_8
      have b0t_8 : (0 : Int) ≤ (k0 : Int) := by omega
      have b1t_8 : (k0 : Int) < ((a.length : Nat) : Int) := by omega
      have b2t_8 : ((k0 : Int)).toNat = k0 := by omega
      replace H := bind_hid H
      obtain ⟨t_11, qt_11, H⟩ := H
      go_wp2_with fail
      go_at_call 50
      refine (Go.Proofs.Ytpcdaoeijlifmaa.GlHeldIntS.C (yt_8) (k_1l0) Art_8 crt_8 _   (Lib.hid (Cells.below Mrt_8.out HBwr0.out)) Nrt_8 qt_11).mono ?_
      rintro e_t_11 wt_11 ⟨rfl, bt_11⟩
      have HBwt_11 := Lib.hid (Below.step HBwr0.out bt_11)
      replace hct_8 := cell_below bt_11 hct_8
      clear bt_11
      replace H := let_hid H
      obtain ⟨t_14, ht_14, H⟩ := H
      cases t_14 with
      | false =>
        replace H := ite_f H
        replace H := app_hid H
        go_wp2_with fail
        go_roundg m0
        case measure => omega
        case rel => exact ⟨k0 + 1, _, by omega, by go_num, rfl, H, HBwt_11⟩
      | true =>
        replace H := ite_t H
        obtain rfl := ret_hid H
        go_wp2_with fail
        go_ret
        exact ⟨rfl, HBwt_11.out⟩
end Go.Proofs.Ytpcdaoeijlifmaa.GlHeldIntSS

/- loop.example/g01062/laws.FnExactSameGauges as a plain function, and the contract of the program's: where the plain one has an answer, the program has it. Conditions: slices read as lists. -/
namespace Go.Proofs.Ytpcdaoeijlifmaa.GlFnExactSameGauges
set_option linter.unusedVariables false
set_option linter.unusedSimpArgs false
open Go.RowKit
open Go.Proofs.Ytpcdaoeijlifmaa.Rowed Go.Proofs.Ytpcdaoeijlifmaa.Turn Go.Proofs.Ytpcdaoeijlifmaa.Aid Go.Proofs.Ytpcdaoeijlifmaa.GoP Go.Proofs.Ytpcdaoeijlifmaa.GoM

def P (aList : (List Go.Proofs.Ytpcdaoeijlifmaa.PComb.Comb)) : Option (Bool) :=
  Option.bind (Go.Proofs.Ytpcdaoeijlifmaa.GlSzCombS.P aList 1048576) fun (t_4 : Int) =>
  letK (decide (t_4 < 0)) fun (t_7 : Bool) =>
  iteK t_7
  (some true)
  (Option.bind (Go.Proofs.Ytpcdaoeijlifmaa.GlToCombS.P aList) fun (t_10 : (List Go.Proofs.Ytpcdaoeijlifmaa.PComb.Comb)) =>
  bind2 (Go.Proofs.Ytpcdaoeijlifmaa.GsSameGauges.P t_10) fun (t_11a : (List (List Int))) (t_11b : Bool) =>
  Option.bind (Go.Proofs.Ytpcdaoeijlifmaa.GlToCombS.P aList) fun (t_18 : (List Go.Proofs.Ytpcdaoeijlifmaa.PComb.Comb)) =>
  bind2 (Go.Proofs.Ytpcdaoeijlifmaa.GiSameGauges.P t_18) fun (t_21a : (List (List Int))) (t_21b : Bool) =>
  Option.bind (Go.Proofs.Ytpcdaoeijlifmaa.GlEqIntSS.P t_21a t_11a) fun (t_29 : Bool) =>
  letK (!t_29) fun (t_30 : Bool) =>
  joinK (fun (t_35 : Bool) =>
  iteK t_35
  (some false)
  (Option.bind (Go.Proofs.Ytpcdaoeijlifmaa.GlToCombS.P aList) fun (t_39 : (List Go.Proofs.Ytpcdaoeijlifmaa.PComb.Comb)) =>
  Option.bind (Go.Proofs.Ytpcdaoeijlifmaa.GlEqCombS.P t_18 t_39) fun (t_40 : Bool) =>
  letK (!t_40) fun (t_41 : Bool) =>
  iteK t_41
  (some false)
  (bind2 (Go.Proofs.Ytpcdaoeijlifmaa.GlMarkCombS.P t_18 1) fun (t_46 : Int) (lt_46 : (List Go.Proofs.Ytpcdaoeijlifmaa.PComb.Comb)) =>
  letK (decide (t_46 < 0)) fun (t_49 : Bool) =>
  joinK (fun (t_55 : Bool) =>
  joinK (fun (t_60 : Bool) =>
  iteK t_60
  (some false)
  (bind2 (Go.Proofs.Ytpcdaoeijlifmaa.GlMarkIntSS.P t_21a 1) fun (t_65 : Int) (lt_65 : (List (List Int))) =>
  Option.bind (Go.Proofs.Ytpcdaoeijlifmaa.GlHeldIntSS.P lt_65 1) fun (t_70 : Int) =>
  letK (decide (t_70 < 0)) fun (t_73 : Bool) =>
  iteK t_73
  (some false)
  (letK (t_70 != t_65) fun (t_77 : Bool) =>
  iteK t_77
  (some false)
  (Option.bind (Go.Proofs.Ytpcdaoeijlifmaa.GlToCombS.P aList) fun (t_80 : (List Go.Proofs.Ytpcdaoeijlifmaa.PComb.Comb)) =>
  bind2 (Go.Proofs.Ytpcdaoeijlifmaa.GiSameGauges.P t_80) fun (t_81a : (List (List Int))) (t_81b : Bool) =>
  Option.bind (Go.Proofs.Ytpcdaoeijlifmaa.GlEqIntSS.P t_81a t_11a) fun (t_89 : Bool) =>
  letK (!t_89) fun (t_90 : Bool) =>
  joinK (fun (t_95 : Bool) =>
  iteK t_95
  (some false)
  (Option.bind (Go.Proofs.Ytpcdaoeijlifmaa.GlHeldIntSS.P lt_65 1) fun (t_100 : Int) =>
  letK (decide (t_100 < 0)) fun (t_103 : Bool) =>
  iteK t_103
  (some false)
  (letK (t_100 != t_65) fun (t_107 : Bool) =>
  iteK t_107
  (some false)
  (some true)))) fun jt_95 => iteK t_90 (appK jt_95 true) (letK (!(t_81b == t_11b)) fun (t_94 : Bool) =>
  appK jt_95 t_94))))) fun jt_60 => iteK t_55 (appK jt_60 true) (letK (!(t_21b == t_11b)) fun (t_59 : Bool) =>
  appK jt_60 t_59)) fun jt_55 => iteK t_49 (appK jt_55 true) (Option.bind (Go.Proofs.Ytpcdaoeijlifmaa.GlEqIntSS.P t_21a t_11a) fun (t_53 : Bool) =>
  letK (!t_53) fun (t_54 : Bool) =>
  appK jt_55 t_54)))) fun jt_35 => iteK t_30 (appK jt_35 true) (letK (!(t_21b == t_11b)) fun (t_34 : Bool) =>
  appK jt_35 t_34))

set_option maxRecDepth 100000 in
set_option maxHeartbeats 2000000 in
theorem C (aList : (List Go.Proofs.Ytpcdaoeijlifmaa.PComb.Comb)) (A0 : Option Addr) (c0 : Nat)  (w : World) (M0 : Hid (Cells w 4 A0 aList.length (Go.Proofs.Ytpcdaoeijlifmaa.PComb.flat aList))) (N0 : Hid (aList.length ≤ 9223372036854775807))  {r : Bool} (H : Hid (P aList = some r)) :
    Calls Try.prog 3 #[.slice A0 aList.length c0] w (Gives (.bool r) w) := by
  have HB := Lib.hid (Below.refl w.heap.size w)
  unfold P at H
  have N0o := N0.out
  go_enter Try.func3, Try.ntmps3
  replace H := bind_hid H
  obtain ⟨t_4, qt_4, H⟩ := H
  go_wp2_with fail
  go_at_call 9
  refine (Go.Proofs.Ytpcdaoeijlifmaa.GlSzCombS.C (aList) (1048576) A0 c0 _   (Lib.hid (Cells.below M0.out HB.out)) N0 qt_4).mono ?_
  rintro e_t_4 wt_4 ⟨rfl, bt_4⟩
  have HBwt_4 := Lib.hid (Below.step HB.out bt_4)
  clear bt_4
  replace H := let_hid H
  obtain ⟨t_7, ht_7, H⟩ := H
  cases t_7 with
  | false =>
    replace H := ite_f H
    replace H := bind_hid H
    obtain ⟨t_10, qt_10, H⟩ := H
    go_wp2_with fail
    go_at_call 11
    refine (Go.Proofs.Ytpcdaoeijlifmaa.GlToCombS.C (aList) A0 c0 _   (Lib.hid (Cells.below M0.out HBwt_4.out)) N0 qt_10).mono ?_
    rintro e_t_10 wt_10 ⟨At_10, ct_10, rfl, ot_10, bt_10⟩
    have Ot_10 := Lib.hid (own_lower ot_10 HBwt_4.out.size)
    clear ot_10
    have HBwt_10 := Lib.hid (Below.step HBwt_4.out bt_10)
    clear bt_10
    replace H := bind2_hid H
    obtain ⟨t_11a, t_11b, qt_11, H⟩ := H
    go_wp2_with fail
    go_at_call 10
    refine (Go.Proofs.Ytpcdaoeijlifmaa.GsSameGauges.C (t_10) At_10 ct_10 _   (Lib.hid (own_cells Ot_10.out)) (Lib.hid (own_max Ot_10.out)) qt_11).mono ?_
    rintro e_t_11 wt_11 ⟨At_11a, ct_11a, rfl, ⟨Bt_11a, ot_11a⟩, bt_11⟩
    have Dt_11a_t_10 := Lib.hid (Go.Proofs.Ytpcdaoeijlifmaa.GoN.nest_callrow ot_11a Ot_10.out)
    have Ot_11a := Lib.hid (Go.Proofs.Ytpcdaoeijlifmaa.GoN.nest_lower ot_11a HBwt_10.out.size)
    clear ot_11a
    have HBwt_11 := Lib.hid (Below.step HBwt_10.out bt_11)
    replace Ot_10 := Lib.hid (own_below Ot_10.out bt_11)
    clear bt_11
    replace H := bind_hid H
    obtain ⟨t_18, qt_18, H⟩ := H
    go_wp2_with fail
    go_at_call 11
    refine (Go.Proofs.Ytpcdaoeijlifmaa.GlToCombS.C (aList) A0 c0 _   (Lib.hid (Cells.below M0.out HBwt_11.out)) N0 qt_18).mono ?_
    rintro e_t_18 wt_18 ⟨At_18, ct_18, rfl, ot_18, bt_18⟩
    have Dt_18_t_10 := Lib.hid (apart_call ot_18 Ot_10.out)
    have Dt_18_t_11a := Lib.hid (Go.Proofs.Ytpcdaoeijlifmaa.GoN.nest_call ot_18 Ot_11a.out)
    have Ot_18 := Lib.hid (own_lower ot_18 HBwt_11.out.size)
    clear ot_18
    have HBwt_18 := Lib.hid (Below.step HBwt_11.out bt_18)
    replace Ot_10 := Lib.hid (own_below Ot_10.out bt_18)
    replace Ot_11a := Lib.hid (Go.Proofs.Ytpcdaoeijlifmaa.GoN.nest_below Ot_11a.out bt_18)
    clear bt_18
    replace H := bind2_hid H
    obtain ⟨t_21a, t_21b, qt_21, H⟩ := H
    go_wp2_with fail
    go_at_call 12
    refine (Go.Proofs.Ytpcdaoeijlifmaa.GiSameGauges.C (t_18) At_18 ct_18 _   (Lib.hid (own_cells Ot_18.out)) (Lib.hid (own_max Ot_18.out)) (Lib.hid (own_room Ot_18.out)) qt_21).mono ?_
    rintro e_t_21 wt_21 ⟨At_21a, ct_21a, rfl, ⟨Bt_21a, ot_21a⟩, bt_21⟩
    have Dt_21a_t_10 := Lib.hid (Go.Proofs.Ytpcdaoeijlifmaa.GoN.nest_callrow ot_21a Ot_10.out)
    have Dt_21a_t_11a := Lib.hid (Go.Proofs.Ytpcdaoeijlifmaa.GoN.nest_callnest ot_21a Ot_11a.out)
    have Dt_21a_t_18 := Lib.hid (Go.Proofs.Ytpcdaoeijlifmaa.GoN.nest_callrow ot_21a Ot_18.out)
    have Ot_21a := Lib.hid (Go.Proofs.Ytpcdaoeijlifmaa.GoN.nest_lower ot_21a HBwt_18.out.size)
    clear ot_21a
    have HBwt_21 := Lib.hid (Below.step HBwt_18.out bt_21)
    replace Ot_10 := Lib.hid (own_below Ot_10.out bt_21)
    replace Ot_11a := Lib.hid (Go.Proofs.Ytpcdaoeijlifmaa.GoN.nest_below Ot_11a.out bt_21)
    replace Ot_18 := Lib.hid (own_below Ot_18.out bt_21)
    clear bt_21
    replace H := bind_hid H
    obtain ⟨t_29, qt_29, H⟩ := H
    go_wp2_with fail
    go_at_call 13
    refine (Go.Proofs.Ytpcdaoeijlifmaa.GlEqIntSS.C (t_21a) (t_11a) At_21a ct_21a At_11a ct_11a _   (Lib.hid (Go.Proofs.Ytpcdaoeijlifmaa.GoN.nest_read Ot_21a.out)) (Lib.hid (Go.Proofs.Ytpcdaoeijlifmaa.GoN.nest_max Ot_21a.out)) (Lib.hid (Go.Proofs.Ytpcdaoeijlifmaa.GoN.nest_read Ot_11a.out)) (Lib.hid (Go.Proofs.Ytpcdaoeijlifmaa.GoN.nest_max Ot_11a.out)) qt_29).mono ?_
    rintro e_t_29 wt_29 ⟨rfl, bt_29⟩
    have HBwt_29 := Lib.hid (Below.step HBwt_21.out bt_29)
    replace Ot_10 := Lib.hid (own_below Ot_10.out bt_29)
    replace Ot_11a := Lib.hid (Go.Proofs.Ytpcdaoeijlifmaa.GoN.nest_below Ot_11a.out bt_29)
    replace Ot_18 := Lib.hid (own_below Ot_18.out bt_29)
    replace Ot_21a := Lib.hid (Go.Proofs.Ytpcdaoeijlifmaa.GoN.nest_below Ot_21a.out bt_29)
    clear bt_29
    cases t_29 with
    | false =>
      replace H := let_hid H
      obtain ⟨t_30, ht_30, H⟩ := H
      obtain rfl : t_30 = true := ht_30.symm
      replace H := join_hid H
      replace H := ite_t H
      replace H := app_hid H
      replace H := ite_t H
      obtain rfl := ret_hid H
      go_wp2_with fail
      go_ret
      exact ⟨rfl, HBwt_29.out⟩
    | true =>
      replace H := let_hid H
      obtain ⟨t_30, ht_30, H⟩ := H
      obtain rfl : t_30 = false := ht_30.symm
      replace H := join_hid H
      replace H := ite_f H
      replace H := let_hid H
      obtain ⟨t_34, ht_34, H⟩ := H
      replace H := app_hid H
      cases t_34 with
      | false =>
        replace H := ite_f H
        replace H := bind_hid H
        obtain ⟨t_39, qt_39, H⟩ := H
        go_wp2_with fail
        go_at_call 11
        refine (Go.Proofs.Ytpcdaoeijlifmaa.GlToCombS.C (aList) A0 c0 _   (Lib.hid (Cells.below M0.out HBwt_29.out)) N0 qt_39).mono ?_
        rintro e_t_39 wt_39 ⟨At_39, ct_39, rfl, ot_39, bt_39⟩
        have Dt_39_t_10 := Lib.hid (apart_call ot_39 Ot_10.out)
        have Dt_39_t_11a := Lib.hid (Go.Proofs.Ytpcdaoeijlifmaa.GoN.nest_call ot_39 Ot_11a.out)
        have Dt_39_t_18 := Lib.hid (apart_call ot_39 Ot_18.out)
        have Dt_39_t_21a := Lib.hid (Go.Proofs.Ytpcdaoeijlifmaa.GoN.nest_call ot_39 Ot_21a.out)
        have Ot_39 := Lib.hid (own_lower ot_39 HBwt_29.out.size)
        clear ot_39
        have HBwt_39 := Lib.hid (Below.step HBwt_29.out bt_39)
        replace Ot_10 := Lib.hid (own_below Ot_10.out bt_39)
        replace Ot_11a := Lib.hid (Go.Proofs.Ytpcdaoeijlifmaa.GoN.nest_below Ot_11a.out bt_39)
        replace Ot_18 := Lib.hid (own_below Ot_18.out bt_39)
        replace Ot_21a := Lib.hid (Go.Proofs.Ytpcdaoeijlifmaa.GoN.nest_below Ot_21a.out bt_39)
        clear bt_39
        replace H := bind_hid H
        obtain ⟨t_40, qt_40, H⟩ := H
        go_wp2_with fail
        go_at_call 14
        refine (Go.Proofs.Ytpcdaoeijlifmaa.GlEqCombS.C (t_18) (t_39) At_18 ct_18 At_39 ct_39 _   (Lib.hid (own_cells Ot_18.out)) (Lib.hid (own_max Ot_18.out)) (Lib.hid (own_cells Ot_39.out)) (Lib.hid (own_max Ot_39.out)) qt_40).mono ?_
        rintro e_t_40 wt_40 ⟨rfl, bt_40⟩
        have HBwt_40 := Lib.hid (Below.step HBwt_39.out bt_40)
        replace Ot_10 := Lib.hid (own_below Ot_10.out bt_40)
        replace Ot_11a := Lib.hid (Go.Proofs.Ytpcdaoeijlifmaa.GoN.nest_below Ot_11a.out bt_40)
        replace Ot_18 := Lib.hid (own_below Ot_18.out bt_40)
        replace Ot_21a := Lib.hid (Go.Proofs.Ytpcdaoeijlifmaa.GoN.nest_below Ot_21a.out bt_40)
        replace Ot_39 := Lib.hid (own_below Ot_39.out bt_40)
        clear bt_40
        cases t_40 with
        | false =>
          replace H := let_hid H
          obtain ⟨t_41, ht_41, H⟩ := H
          obtain rfl : t_41 = true := ht_41.symm
          replace H := ite_t H
          obtain rfl := ret_hid H
          go_wp2_with fail
          go_ret
          exact ⟨rfl, HBwt_40.out⟩
        | true =>
          replace H := let_hid H
          obtain ⟨t_41, ht_41, H⟩ := H
          obtain rfl : t_41 = false := ht_41.symm
          replace H := ite_f H
          replace H := bind2_hid H
          obtain ⟨t_46, lt_46, qt_46, H⟩ := H
          go_wp2_with fail
          go_at_call 15
          refine (Go.Proofs.Ytpcdaoeijlifmaa.GlMarkCombS.C (t_18) (1) At_18 ct_18 w.heap.size _   Ot_18 (Lib.hid (own_max Ot_18.out))   qt_46).mono ?_
          rintro e_t_46 wt_46 ⟨rfl, ot_46, nt_46, gt_46⟩
          have Pt_46 := Lib.hid ot_46
          have Gt_46 := Lib.hid gt_46
          replace nt_46 := Lib.hid nt_46
          clear ot_46 gt_46
          have HBwt_46 := Lib.hid (HBwt_40.out.grown Gt_46.out HBwt_40.out.size (fun q hq => (Ot_18.out.lt q hq).1))
          replace Ot_10 := Lib.hid (own_other Ot_10.out Gt_46.out Dt_18_t_10.out)
          replace Ot_11a := Lib.hid (Go.Proofs.Ytpcdaoeijlifmaa.GoN.nest_other Ot_11a.out Gt_46.out Dt_18_t_11a.out)
          replace Ot_21a := Lib.hid (Go.Proofs.Ytpcdaoeijlifmaa.GoN.nest_other Ot_21a.out Gt_46.out Dt_21a_t_18.out)
          replace Ot_39 := Lib.hid (own_other Ot_39.out Gt_46.out (Apart.symm Dt_39_t_18.out))
          clear Ot_18 Gt_46
          replace H := let_hid H
          obtain ⟨t_49, ht_49, H⟩ := H
          replace H := join_hid H
          cases t_49 with
          | false =>
            replace H := ite_f H
            replace H := bind_hid H
            obtain ⟨t_53, qt_53, H⟩ := H
            go_wp2_with fail
            go_at_call 13
            refine (Go.Proofs.Ytpcdaoeijlifmaa.GlEqIntSS.C (t_21a) (t_11a) At_21a ct_21a At_11a ct_11a _   (Lib.hid (Go.Proofs.Ytpcdaoeijlifmaa.GoN.nest_read Ot_21a.out)) (Lib.hid (Go.Proofs.Ytpcdaoeijlifmaa.GoN.nest_max Ot_21a.out)) (Lib.hid (Go.Proofs.Ytpcdaoeijlifmaa.GoN.nest_read Ot_11a.out)) (Lib.hid (Go.Proofs.Ytpcdaoeijlifmaa.GoN.nest_max Ot_11a.out)) qt_53).mono ?_
            rintro e_t_53 wt_53 ⟨rfl, bt_53⟩
            have HBwt_53 := Lib.hid (Below.step HBwt_46.out bt_53)
            replace Ot_10 := Lib.hid (own_below Ot_10.out bt_53)
            replace Ot_11a := Lib.hid (Go.Proofs.Ytpcdaoeijlifmaa.GoN.nest_below Ot_11a.out bt_53)
            replace Pt_46 := Lib.hid (own_below Pt_46.out bt_53)
            replace Ot_21a := Lib.hid (Go.Proofs.Ytpcdaoeijlifmaa.GoN.nest_below Ot_21a.out bt_53)
            replace Ot_39 := Lib.hid (own_below Ot_39.out bt_53)
            clear bt_53
            cases t_53 with
            | false =>
              replace H := let_hid H
              obtain ⟨t_54, ht_54, H⟩ := H
              obtain rfl : t_54 = true := ht_54.symm
              replace H := app_hid H
              replace H := join_hid H
              replace H := ite_t H
              replace H := app_hid H
              replace H := ite_t H
              obtain rfl := ret_hid H
              go_wp2_with fail
              go_ret
              exact ⟨rfl, HBwt_53.out⟩
            | true =>
              replace H := let_hid H
              obtain ⟨t_54, ht_54, H⟩ := H
              obtain rfl : t_54 = false := ht_54.symm
              replace H := app_hid H
              replace H := join_hid H
              replace H := ite_f H
              replace H := let_hid H
              obtain ⟨t_59, ht_59, H⟩ := H
              obtain rfl := ht_34.symm.trans ht_59
              replace H := app_hid H
              replace H := ite_f H
              replace H := bind2_hid H
              obtain ⟨t_65, lt_65, qt_65, H⟩ := H
              go_wp2_with fail
              go_at_call 16
              refine (Go.Proofs.Ytpcdaoeijlifmaa.GlMarkIntSS.C (t_21a) (1) At_21a ct_21a w.heap.size Bt_21a _   Ot_21a (Lib.hid (Go.Proofs.Ytpcdaoeijlifmaa.GoN.nest_max Ot_21a.out))   qt_65).mono ?_
              rintro e_t_65 wt_65 ⟨rfl, ot_65, nt_65, gt_65⟩
              have Pt_65 := Lib.hid ot_65
              have Gt_65 := Lib.hid gt_65
              replace nt_65 := Lib.hid nt_65
              clear ot_65 gt_65
              have HBwt_65 := Lib.hid (Go.Proofs.Ytpcdaoeijlifmaa.GoN.below_nest HBwt_53.out Gt_65.out HBwt_53.out.size (Go.Proofs.Ytpcdaoeijlifmaa.GoN.nest_lt Ot_21a.out))
              replace Ot_10 := Lib.hid (Go.Proofs.Ytpcdaoeijlifmaa.GoN.own_otherN Ot_10.out Gt_65.out Dt_21a_t_10.out)
              replace Ot_11a := Lib.hid (Go.Proofs.Ytpcdaoeijlifmaa.GoN.nest_otherN Ot_11a.out Gt_65.out (Go.Proofs.Ytpcdaoeijlifmaa.GoN.nest_flip Dt_21a_t_11a.out))
              replace Pt_46 := Lib.hid (Go.Proofs.Ytpcdaoeijlifmaa.GoN.own_otherN Pt_46.out Gt_65.out Dt_21a_t_18.out)
              replace Ot_39 := Lib.hid (Go.Proofs.Ytpcdaoeijlifmaa.GoN.own_otherN Ot_39.out Gt_65.out Dt_39_t_21a.out)
              clear Ot_21a Gt_65
              replace H := bind_hid H
              obtain ⟨t_70, qt_70, H⟩ := H
              go_wp2_with fail
              have hc_ := nt_65.out
              have hv_ : (Value.slice At_21a t_21a.length ct_21a : Value) = Value.slice At_21a lt_65.length ct_21a := by rw [hc_]
              try rw [hv_]
              clear hc_ hv_
              go_wp2_with fail
              go_at_call 17
              refine (Go.Proofs.Ytpcdaoeijlifmaa.GlHeldIntSS.C (lt_65) (1) At_21a ct_21a _   (Lib.hid (Go.Proofs.Ytpcdaoeijlifmaa.GoN.nest_read Pt_65.out)) (Lib.hid (Go.Proofs.Ytpcdaoeijlifmaa.GoN.nest_max Pt_65.out)) qt_70).mono ?_
              rintro e_t_70 wt_70 ⟨rfl, bt_70⟩
              have HBwt_70 := Lib.hid (Below.step HBwt_65.out bt_70)
              replace Ot_10 := Lib.hid (own_below Ot_10.out bt_70)
              replace Ot_11a := Lib.hid (Go.Proofs.Ytpcdaoeijlifmaa.GoN.nest_below Ot_11a.out bt_70)
              replace Pt_46 := Lib.hid (own_below Pt_46.out bt_70)
              replace Pt_65 := Lib.hid (Go.Proofs.Ytpcdaoeijlifmaa.GoN.nest_below Pt_65.out bt_70)
              replace Ot_39 := Lib.hid (own_below Ot_39.out bt_70)
              clear bt_70
              replace H := let_hid H
              obtain ⟨t_73, ht_73, H⟩ := H
              cases t_73 with
              | false =>
                replace H := ite_f H
                replace H := let_hid H
                obtain ⟨t_77, ht_77, H⟩ := H
                cases t_77 with
                | false =>
                  replace H := ite_f H
                  replace H := bind_hid H
                  obtain ⟨t_80, qt_80, H⟩ := H
                  go_wp2_with fail
                  go_at_call 11
                  refine (Go.Proofs.Ytpcdaoeijlifmaa.GlToCombS.C (aList) A0 c0 _   (Lib.hid (Cells.below M0.out HBwt_70.out)) N0 qt_80).mono ?_
                  rintro e_t_80 wt_80 ⟨At_80, ct_80, rfl, ot_80, bt_80⟩
                  have Dt_80_t_10 := Lib.hid (apart_call ot_80 Ot_10.out)
                  have Dt_80_t_11a := Lib.hid (Go.Proofs.Ytpcdaoeijlifmaa.GoN.nest_call ot_80 Ot_11a.out)
                  have Dt_80_t_18 := Lib.hid (apart_call ot_80 Pt_46.out)
                  have Dt_80_t_21a := Lib.hid (Go.Proofs.Ytpcdaoeijlifmaa.GoN.nest_call ot_80 Pt_65.out)
                  have Dt_80_t_39 := Lib.hid (apart_call ot_80 Ot_39.out)
                  have Ot_80 := Lib.hid (own_lower ot_80 HBwt_70.out.size)
                  clear ot_80
                  have HBwt_80 := Lib.hid (Below.step HBwt_70.out bt_80)
                  replace Ot_10 := Lib.hid (own_below Ot_10.out bt_80)
                  replace Ot_11a := Lib.hid (Go.Proofs.Ytpcdaoeijlifmaa.GoN.nest_below Ot_11a.out bt_80)
                  replace Pt_46 := Lib.hid (own_below Pt_46.out bt_80)
                  replace Pt_65 := Lib.hid (Go.Proofs.Ytpcdaoeijlifmaa.GoN.nest_below Pt_65.out bt_80)
                  replace Ot_39 := Lib.hid (own_below Ot_39.out bt_80)
                  clear bt_80
                  replace H := bind2_hid H
                  obtain ⟨t_81a, t_81b, qt_81, H⟩ := H
                  go_wp2_with fail
                  go_at_call 12
                  refine (Go.Proofs.Ytpcdaoeijlifmaa.GiSameGauges.C (t_80) At_80 ct_80 _   (Lib.hid (own_cells Ot_80.out)) (Lib.hid (own_max Ot_80.out)) (Lib.hid (own_room Ot_80.out)) qt_81).mono ?_
                  rintro e_t_81 wt_81 ⟨At_81a, ct_81a, rfl, ⟨Bt_81a, ot_81a⟩, bt_81⟩
                  have Dt_81a_t_10 := Lib.hid (Go.Proofs.Ytpcdaoeijlifmaa.GoN.nest_callrow ot_81a Ot_10.out)
                  have Dt_81a_t_11a := Lib.hid (Go.Proofs.Ytpcdaoeijlifmaa.GoN.nest_callnest ot_81a Ot_11a.out)
                  have Dt_81a_t_18 := Lib.hid (Go.Proofs.Ytpcdaoeijlifmaa.GoN.nest_callrow ot_81a Pt_46.out)
                  have Dt_81a_t_21a := Lib.hid (Go.Proofs.Ytpcdaoeijlifmaa.GoN.nest_callnest ot_81a Pt_65.out)
                  have Dt_81a_t_39 := Lib.hid (Go.Proofs.Ytpcdaoeijlifmaa.GoN.nest_callrow ot_81a Ot_39.out)
                  have Dt_81a_t_80 := Lib.hid (Go.Proofs.Ytpcdaoeijlifmaa.GoN.nest_callrow ot_81a Ot_80.out)
                  have Ot_81a := Lib.hid (Go.Proofs.Ytpcdaoeijlifmaa.GoN.nest_lower ot_81a HBwt_80.out.size)
                  clear ot_81a
                  have HBwt_81 := Lib.hid (Below.step HBwt_80.out bt_81)
                  replace Ot_10 := Lib.hid (own_below Ot_10.out bt_81)
                  replace Ot_11a := Lib.hid (Go.Proofs.Ytpcdaoeijlifmaa.GoN.nest_below Ot_11a.out bt_81)
                  replace Pt_46 := Lib.hid (own_below Pt_46.out bt_81)
                  replace Pt_65 := Lib.hid (Go.Proofs.Ytpcdaoeijlifmaa.GoN.nest_below Pt_65.out bt_81)
                  replace Ot_39 := Lib.hid (own_below Ot_39.out bt_81)
                  replace Ot_80 := Lib.hid (own_below Ot_80.out bt_81)
                  clear bt_81
                  replace H := bind_hid H
                  obtain ⟨t_89, qt_89, H⟩ := H
                  go_wp2_with fail
                  go_at_call 13
                  refine (Go.Proofs.Ytpcdaoeijlifmaa.GlEqIntSS.C (t_81a) (t_11a) At_81a ct_81a At_11a ct_11a _   (Lib.hid (Go.Proofs.Ytpcdaoeijlifmaa.GoN.nest_read Ot_81a.out)) (Lib.hid (Go.Proofs.Ytpcdaoeijlifmaa.GoN.nest_max Ot_81a.out)) (Lib.hid (Go.Proofs.Ytpcdaoeijlifmaa.GoN.nest_read Ot_11a.out)) (Lib.hid (Go.Proofs.Ytpcdaoeijlifmaa.GoN.nest_max Ot_11a.out)) qt_89).mono ?_
                  rintro e_t_89 wt_89 ⟨rfl, bt_89⟩
                  have HBwt_89 := Lib.hid (Below.step HBwt_81.out bt_89)
                  replace Ot_10 := Lib.hid (own_below Ot_10.out bt_89)
                  replace Ot_11a := Lib.hid (Go.Proofs.Ytpcdaoeijlifmaa.GoN.nest_below Ot_11a.out bt_89)
                  replace Pt_46 := Lib.hid (own_below Pt_46.out bt_89)
                  replace Pt_65 := Lib.hid (Go.Proofs.Ytpcdaoeijlifmaa.GoN.nest_below Pt_65.out bt_89)
                  replace Ot_39 := Lib.hid (own_below Ot_39.out bt_89)
                  replace Ot_80 := Lib.hid (own_below Ot_80.out bt_89)
                  replace Ot_81a := Lib.hid (Go.Proofs.Ytpcdaoeijlifmaa.GoN.nest_below Ot_81a.out bt_89)
                  clear bt_89
                  cases t_89 with
                  | false =>
                    replace H := let_hid H
                    obtain ⟨t_90, ht_90, H⟩ := H
                    obtain rfl : t_90 = true := ht_90.symm
                    replace H := join_hid H
                    replace H := ite_t H
                    replace H := app_hid H
                    replace H := ite_t H
                    obtain rfl := ret_hid H
                    go_wp2_with fail
                    go_ret
                    exact ⟨rfl, HBwt_89.out⟩
                  | true =>
                    replace H := let_hid H
                    obtain ⟨t_90, ht_90, H⟩ := H
                    obtain rfl : t_90 = false := ht_90.symm
                    replace H := join_hid H
                    replace H := ite_f H
                    replace H := let_hid H
                    obtain ⟨t_94, ht_94, H⟩ := H
                    replace H := app_hid H
                    cases t_94 with
                    | false =>
                      replace H := ite_f H
                      replace H := bind_hid H
                      obtain ⟨t_100, qt_100, H⟩ := H
                      go_wp2_with fail
                      go_at_call 17
                      refine (Go.Proofs.Ytpcdaoeijlifmaa.GlHeldIntSS.C (lt_65) (1) At_21a ct_21a _   (Lib.hid (Go.Proofs.Ytpcdaoeijlifmaa.GoN.nest_read Pt_65.out)) (Lib.hid (Go.Proofs.Ytpcdaoeijlifmaa.GoN.nest_max Pt_65.out)) qt_100).mono ?_
                      rintro e_t_100 wt_100 ⟨rfl, bt_100⟩
                      have HBwt_100 := Lib.hid (Below.step HBwt_89.out bt_100)
                      replace Ot_10 := Lib.hid (own_below Ot_10.out bt_100)
                      replace Ot_11a := Lib.hid (Go.Proofs.Ytpcdaoeijlifmaa.GoN.nest_below Ot_11a.out bt_100)
                      replace Pt_46 := Lib.hid (own_below Pt_46.out bt_100)
                      replace Pt_65 := Lib.hid (Go.Proofs.Ytpcdaoeijlifmaa.GoN.nest_below Pt_65.out bt_100)
                      replace Ot_39 := Lib.hid (own_below Ot_39.out bt_100)
                      replace Ot_80 := Lib.hid (own_below Ot_80.out bt_100)
                      replace Ot_81a := Lib.hid (Go.Proofs.Ytpcdaoeijlifmaa.GoN.nest_below Ot_81a.out bt_100)
                      clear bt_100
                      replace H := let_hid H
                      obtain ⟨t_103, ht_103, H⟩ := H
                      cases t_103 with
                      | false =>
                        replace H := ite_f H
                        replace H := let_hid H
                        obtain ⟨t_107, ht_107, H⟩ := H
                        cases t_107 with
                        | false =>
                          replace H := ite_f H
                          obtain rfl := ret_hid H
                          go_wp2_with fail
                          go_ret
                          exact ⟨rfl, HBwt_100.out⟩
                        | true =>
                          replace H := ite_t H
                          obtain rfl := ret_hid H
                          go_wp2_with fail
                          go_ret
                          exact ⟨rfl, HBwt_100.out⟩
                      | true =>
                        replace H := ite_t H
                        obtain rfl := ret_hid H
                        go_wp2_with fail
                        go_ret
                        exact ⟨rfl, HBwt_100.out⟩
                    | true =>
                      replace H := ite_t H
                      obtain rfl := ret_hid H
                      go_wp2_with fail
                      go_ret
                      exact ⟨rfl, HBwt_89.out⟩
                | true =>
                  replace H := ite_t H
                  obtain rfl := ret_hid H
                  go_wp2_with fail
                  go_ret
                  exact ⟨rfl, HBwt_70.out⟩
              | true =>
                replace H := ite_t H
                obtain rfl := ret_hid H
                go_wp2_with fail
                go_ret
                exact ⟨rfl, HBwt_70.out⟩
          | true =>
            replace H := ite_t H
            replace H := app_hid H
            replace H := join_hid H
            replace H := ite_t H
            replace H := app_hid H
            replace H := ite_t H
            obtain rfl := ret_hid H
            go_wp2_with fail
            go_ret
            exact ⟨rfl, HBwt_46.out⟩
      | true =>
        replace H := ite_t H
        obtain rfl := ret_hid H
        go_wp2_with fail
        go_ret
        exact ⟨rfl, HBwt_29.out⟩
  | true =>
    replace H := ite_t H
    obtain rfl := ret_hid H
    go_wp2_with fail
    go_ret
    exact ⟨rfl, HBwt_4.out⟩
end Go.Proofs.Ytpcdaoeijlifmaa.GlFnExactSameGauges

/- Plain words on stamps: what a stamp is, when one is valid, when a list of them is; the cells of a list of records. No condition. -/
namespace Go.Proofs.Ytpcdaoeijlifmaa.PlainStamp
set_option linter.unusedVariables false

/-- a number lies in a..b -/
def inB (x a b : Int) : Bool := decide (a ≤ x ∧ x ≤ b)
theorem inB_yes {x a b : Int} (h1 : a ≤ x) (h2 : x ≤ b) : inB x a b = true := by unfold inB; exact decide_eq_true ⟨h1, h2⟩
theorem inB_of {x a b : Int} (h : inB x a b = true) : a ≤ x ∧ x ≤ b := by unfold inB at h; exact of_decide_eq_true h
theorem inB_no {x a b : Int} (h : x < a ∨ b < x) : inB x a b = false := by unfold inB; exact decide_eq_false (by omega)

structure St where
  id : Int
  face : Int
  color : Int
  year : Int
deriving DecidableEq

def St.cells (s : St) : List Value := [.int .i64 s.id, .int .i64 s.face, .int .i64 s.color, .int .i64 s.year]
def St.val (s : St) : Value := .agg #[.int .i64 s.id, .int .i64 s.face, .int .i64 s.color, .int .i64 s.year]
/-- each field fits an int -/
def St.fits (s : St) : Prop := (Lit.int .i64 s.id).wf = true ∧ (Lit.int .i64 s.face).wf = true ∧ (Lit.int .i64 s.color).wf = true ∧ (Lit.int .i64 s.year).wf = true

def okSt (s : St) : Bool := inB s.id 1 999 && inB s.face 0 9999 && inB s.color 0 99 && inB s.year 1840 2100
theorem okSt_yes {s : St} (h : okSt s = true) : (1 ≤ s.id ∧ s.id ≤ 999) ∧ (0 ≤ s.face ∧ s.face ≤ 9999) ∧ (0 ≤ s.color ∧ s.color ≤ 99) ∧ (1840 ≤ s.year ∧ s.year ≤ 2100) := by
  unfold okSt at h
  simp only [Bool.and_eq_true] at h
  exact ⟨inB_of h.1.1.1, inB_of h.1.1.2, inB_of h.1.2, inB_of h.2⟩

/-- the stamp at k is valid, and its id is above the one ahead of it -/
def okAt (l : List St) (k : Nat) : Bool :=
  match l[k]? with
  | none => true
  | some s => okSt s && (decide (k = 0) || (match l[k-1]? with | none => true | some r => decide (r.id < s.id)))
def okUp (l : List St) (k : Nat) : Bool := (List.range k).all (okAt l)
theorem okUp_zero (l : List St) : okUp l 0 = true := by simp [okUp]
theorem okUp_succ (l : List St) (k : Nat) : okUp l (k + 1) = (okUp l k && okAt l k) := by simp [okUp, List.range_succ, List.all_append]
theorem okUp_not {l : List St} {k n : Nat} (h : okAt l k = false) (hk : k < n) : okUp l n = false := by
  unfold okUp
  rw [Bool.eq_false_iff]
  intro hall
  have := List.all_eq_true.1 hall k (List.mem_range.2 hk)
  rw [h] at this; exact absurd this (by simp)
/-- a list of at most twelve valid stamps with rising ids -/
def okSts (l : List St) : Bool := decide (l.length ≤ 12) && okUp l l.length
theorem okAt_of {l : List St} {k : Nat} {s : St} (hs : l[k]? = some s) (h : okAt l k = true) : okSt s = true ∧ ∀ r, 0 < k → l[k-1]? = some r → r.id < s.id := by
  unfold okAt at h
  rw [hs] at h
  simp only [Bool.and_eq_true, Bool.or_eq_true, decide_eq_true_eq] at h
  refine ⟨h.1, fun r hk hr => ?_⟩
  rcases h.2 with h0 | h0
  · omega
  · rw [hr] at h0; simpa using h0
theorem okSts_len {l : List St} (h : okSts l = true) : l.length ≤ 12 := by unfold okSts at h; simp only [Bool.and_eq_true, decide_eq_true_eq] at h; exact h.1
theorem okSts_at {l : List St} (h : okSts l = true) {k : Nat} {s : St} (hs : l[k]? = some s) : okSt s = true ∧ ∀ r, 0 < k → l[k-1]? = some r → r.id < s.id := by
  unfold okSts at h
  simp only [Bool.and_eq_true, decide_eq_true_eq] at h
  exact okAt_of hs (List.all_eq_true.1 h.2 k (List.mem_range.2 (List.getElem?_eq_some_iff.1 hs).1))
theorem okSts_mem {l : List St} (h : okSts l = true) {s : St} (hs : s ∈ l) : okSt s = true := by
  obtain ⟨k, hk⟩ := List.getElem?_of_mem hs
  exact (okSts_at h hk).1

/-- the cells of a list of stamps, one after the other -/
def flat (l : List St) : List Value := l.flatMap St.cells
theorem flat_nil : flat [] = [] := rfl
theorem flat_cons (s : St) (l : List St) : flat (s :: l) = s.cells ++ flat l := by simp [flat]
theorem flat_len (l : List St) : (flat l).length = l.length * 4 := by
  induction l with
  | nil => rfl
  | cons s l ih => rw [flat_cons, List.length_append, ih]; simp [St.cells]; omega
theorem flat_at : ∀ (l : List St) (k : Nat) (s : St), l[k]? = some s → ∀ j, j < 4 → (flat l)[k * 4 + j]? = s.cells[j]?
  | [], k, s, h, _, _ => by simp at h
  | r :: l, 0, s, h, j, hj => by
    obtain rfl : r = s := by simpa using h
    rw [flat_cons, List.getElem?_append_left (by simp [St.cells]; omega)]; simp
  | r :: l, k + 1, s, h, j, hj => by
    rw [flat_cons, List.getElem?_append_right (by simp [St.cells]; omega), show (k + 1) * 4 + j - r.cells.length = k * 4 + j by simp [St.cells]; omega]
    exact flat_at l k s (by simpa using h) j hj
end Go.Proofs.Ytpcdaoeijlifmaa.PlainStamp

/- Words for reckoning with plain functions; within and l1In. No condition. -/
namespace Go.Proofs.Ytpcdaoeijlifmaa.QBase
set_option linter.unusedVariables false
set_option linter.unusedSimpArgs false
open Go.RowKit
open Go.Proofs.Ytpcdaoeijlifmaa.GoP Go.Proofs.Ytpcdaoeijlifmaa.PlainStamp

theorem iteK_if {ρ : Type} (c : Bool) (a b : Option ρ) : iteK c a b = if c = true then a else b := by cases c <;> rfl
theorem bind2_some {α β ρ : Type} (a : α) (b : β) (f : α → β → Option ρ) : bind2 (some (a, b)) f = f a b := rfl
theorem bind3_some {α β γ ρ : Type} (a : α) (b : β) (c : γ) (f : α → β → γ → Option ρ) : bind3 (some (a, b, c)) f = f a b c := rfl
theorem unp2_mk {α β ρ : Type} (a : α) (b : β) (f : α → β → Option ρ) : unp2 (a, b) f = f a b := rfl
theorem unp3_mk {α β γ ρ : Type} (a : α) (b : β) (c : γ) (f : α → β → γ → Option ρ) : unp3 (a, b, c) f = f a b c := rfl
theorem guardK_pos {ρ : Type} {p : Prop} [Decidable p] {a : Option ρ} (h : p) : guardK p a = a := if_pos h
theorem cut2 {α β : Type} {x : Option (α × β)} {p : α × β} (h : x = some p) : x = some (p.1, p.2) := h
theorem cut3 {α β γ : Type} {x : Option (α × β × γ)} {p : α × β × γ} (h : x = some p) : x = some (p.1, p.2.1, p.2.2) := h
theorem within_eq (n a b : Int) : GiWithin.P n a b = some (inB n a b) := by
  simp only [GiWithin.P, letK, joinK, appK, iteK_if, inB]
  by_cases h1 : a ≤ n <;> by_cases h2 : n ≤ b <;> simp [h1, h2]
theorem l1In_eq (n a b : Int) : GsL1In.P n a b = some (inB n a b) := by
  simp only [GsL1In.P, letK, joinK, appK, iteK_if, inB]
  by_cases h1 : a ≤ n <;> by_cases h2 : n ≤ b <;> simp [h1, h2]
end Go.Proofs.Ytpcdaoeijlifmaa.QBase

/- Reckoning with the loops of plain functions; lists of valid records with rising ids. No condition. -/
namespace Go.Proofs.Ytpcdaoeijlifmaa.QLoop
set_option linter.unusedVariables false
open Go.RowKit
open Go.Proofs.Ytpcdaoeijlifmaa.GoP Go.Proofs.Ytpcdaoeijlifmaa.QBase

theorem cnt_ex {σ ρ : Type} {f : Nat → σ → (σ → Option ρ) → (σ → Option ρ) → Option ρ} {fin : σ → Option ρ} {Q : ρ → Prop} {n : Nat} (I : Nat → σ → Prop)
    (step : ∀ k s nx, k < n → I k s → (∀ s', I (k + 1) s' → ∃ r, nx s' = some r ∧ Q r) → ∃ r, f k s nx fin = some r ∧ Q r) (done : ∀ s, I n s → ∃ r, fin s = some r ∧ Q r) :
    ∀ m k s, k + m = n → I k s → ∃ r, cntK f m k s fin = some r ∧ Q r := by
  intro m
  induction m with
  | zero => intro k s hk hI; obtain rfl : k = n := by omega
            exact done s hI
  | succ m ih => intro k s hk hI; exact step k s _ (by omega) hI (fun s' h' => ih (k + 1) s' (by omega) h')
theorem cnt_is {σ ρ : Type} {f : Nat → σ → (σ → Option ρ) → (σ → Option ρ) → Option ρ} {fin : σ → Option ρ} {n : Nat} (r : ρ) (I : Nat → σ → Prop)
    (step : ∀ k s nx, k < n → I k s → (∀ s', I (k + 1) s' → nx s' = some r) → f k s nx fin = some r) (done : ∀ s, I n s → fin s = some r) (s : σ) (h0 : I 0 s) : cntK f n 0 s fin = some r := by
  obtain ⟨r', h, rfl⟩ := cnt_ex (Q := fun x => x = r) I (fun k s nx hk hI hn => ⟨r, step k s nx hk hI (fun s' h' => by obtain ⟨_, h, rfl⟩ := hn s' h'; exact h), rfl⟩) (fun s h => ⟨r, done s h, rfl⟩) n 0 s (by omega) h0
  exact h
theorem at_lt {α : Type} {l : List α} {k : Nat} (h : k < l.length) : ∃ x, l[k]? = some x ∧ idx l (k : Int) = some x := ⟨l[k], List.getElem?_eq_getElem h, by rw [idx_nat, List.getElem?_eq_getElem h]⟩
theorem idx_pred {α : Type} {l : List α} {k : Nat} {x : α} (hk : 0 < k) (hb : k ≤ 9223372036854775807) (h : l[k - 1]? = some x) : idx l (IntKind.i64.wrap ((k : Int) - 1)) = some x := by
  rw [IntWalk.i64_in _ (by omega), show ((k : Int) - 1) = ((k - 1 : Nat) : Int) by omega, idx_nat, h]
theorem take_next {α : Type} {l : List α} {k : Nat} {x : α} (h : l[k]? = some x) : l.take (k + 1) = l.take k ++ [x] := by
  obtain ⟨hk, e⟩ := List.getElem?_eq_some_iff.1 h
  rw [List.take_succ_eq_append_getElem hk, e]
theorem all_next {α : Type} {p : α → Bool} {l : List α} {k : Nat} {x : α} (h : l[k]? = some x) : (l.take (k + 1)).all p = ((l.take k).all p && p x) := by
  rw [take_next h]; simp
theorem not_all {α : Type} {p : α → Bool} {l : List α} {k : Nat} {x : α} (h : l[k]? = some x) (hp : p x = false) : l.all p = false := by
  rw [Bool.eq_false_iff]
  intro ha
  have := List.all_eq_true.1 ha x (List.mem_of_getElem? h)
  rw [hp] at this; exact absurd this (by simp)
theorem wrap_in {x : Int} (h1 : -9223372036854775808 ≤ x) (h2 : x ≤ 9223372036854775807) : IntKind.i64.wrap x = x := IntWalk.i64_in _ (by omega)

/-- valid, and above the one ahead of it -/
def upAt {α : Type} (ok : α → Bool) (id : α → Int) (l : List α) (k : Nat) : Bool :=
  match l[k]? with
  | none => true
  | some s => ok s && (decide (k = 0) || (match l[k-1]? with | none => true | some r => decide (id r < id s)))
def upTo {α : Type} (ok : α → Bool) (id : α → Int) (l : List α) (k : Nat) : Bool := (List.range k).all (upAt ok id l)
theorem upTo_zero {α : Type} (ok : α → Bool) (id : α → Int) (l : List α) : upTo ok id l 0 = true := rfl
theorem upTo_succ {α : Type} (ok : α → Bool) (id : α → Int) (l : List α) (k : Nat) : upTo ok id l (k + 1) = (upTo ok id l k && upAt ok id l k) := by simp [upTo, List.range_succ, List.all_append]
theorem upTo_not {α : Type} {ok : α → Bool} {id : α → Int} {l : List α} {k n : Nat} (h : upAt ok id l k = false) (hk : k < n) : upTo ok id l n = false := by
  unfold upTo
  rw [Bool.eq_false_iff]
  intro ha
  have := List.all_eq_true.1 ha k (List.mem_range.2 hk)
  rw [h] at this; exact absurd this (by simp)
/-- a list of at most m valid records with rising ids -/
def upL {α : Type} (m : Nat) (ok : α → Bool) (id : α → Int) (l : List α) : Bool := decide (l.length ≤ m) && upTo ok id l l.length
theorem upAt_bad {α : Type} {ok : α → Bool} {id : α → Int} {l : List α} {k : Nat} {s : α} (hs : l[k]? = some s) (h : ok s = false) : upAt ok id l k = false := by unfold upAt; rw [hs]; simp [h]
theorem upAt_first {α : Type} {ok : α → Bool} {id : α → Int} {l : List α} {s : α} (hs : l[0]? = some s) (h : ok s = true) : upAt ok id l 0 = true := by unfold upAt; rw [hs]; simp [h]
theorem upAt_next {α : Type} {ok : α → Bool} {id : α → Int} {l : List α} {k : Nat} {s r : α} (hs : l[k]? = some s) (hr : l[k-1]? = some r) (hk : 0 < k) (h : ok s = true) : upAt ok id l k = decide (id r < id s) := by
  unfold upAt; rw [hs]; simp only [hr, h, Bool.true_and, decide_eq_false (show ¬ k = 0 by omega), Bool.false_or]
theorem upL_len {α : Type} {m : Nat} {ok : α → Bool} {id : α → Int} {l : List α} (h : upL m ok id l = true) : l.length ≤ m := by unfold upL at h; simp only [Bool.and_eq_true, decide_eq_true_eq] at h; exact h.1
theorem upL_ok {α : Type} {m : Nat} {ok : α → Bool} {id : α → Int} {l : List α} (h : upL m ok id l = true) {k : Nat} {s : α} (hs : l[k]? = some s) : ok s = true := by
  unfold upL at h
  simp only [Bool.and_eq_true, decide_eq_true_eq] at h
  have := List.all_eq_true.1 h.2 k (List.mem_range.2 (List.getElem?_eq_some_iff.1 hs).1)
  unfold upAt at this
  rw [hs] at this
  simp only [Bool.and_eq_true] at this
  exact this.1
theorem upL_mem {α : Type} {m : Nat} {ok : α → Bool} {id : α → Int} {l : List α} (h : upL m ok id l = true) {s : α} (hs : s ∈ l) : ok s = true := by
  obtain ⟨k, hk⟩ := List.getElem?_of_mem hs
  exact upL_ok h hk
/-- a loop that goes through a list of records and stops with 'false' at the first that is bad -/
theorem up_loop {α : Type} {ok : α → Bool} {id : α → Int} {l : List α} {R : Type} {no : R} {f : Nat → Unit → (Unit → Option R) → (Unit → Option R) → Option R} {fin : Unit → Option R}
    (step : ∀ k nx s, l[k]? = some s → (ok s = false → f k () nx fin = some no) ∧ (ok s = true → (k = 0 → f k () nx fin = nx ()) ∧ (0 < k → ∀ r, l[k-1]? = some r → (id r < id s → f k () nx fin = nx ()) ∧ (id s ≤ id r → f k () nx fin = some no)))) :
    cntK f l.length 0 () fin = if upTo ok id l l.length then fin () else some no := by
  have key : ∀ m k, k + m = l.length → upTo ok id l k = true → cntK f m k () fin = if upTo ok id l l.length then fin () else some no := by
    intro m
    induction m with
    | zero => intro k hk hu; obtain rfl : k = l.length := by omega
              rw [hu]; rfl
    | succ m ih =>
      intro k hk hu
      have hlt : k < l.length := by omega
      obtain ⟨s, hs, _⟩ := at_lt hlt
      obtain ⟨h1, h2⟩ := step k (fun s' => cntK f m (k + 1) s' fin) s hs
      show f k () _ fin = _
      cases hok : ok s with
      | false => rw [h1 hok, upTo_not (upAt_bad hs hok) hlt]; rfl
      | true =>
        obtain ⟨h3, h4⟩ := h2 hok
        by_cases hk0 : k = 0
        · rw [h3 hk0]
          subst hk0
          exact ih 1 (by omega) (by rw [upTo_succ, hu, upAt_first hs hok]; rfl)
        · obtain ⟨r, hr, _⟩ := at_lt (l := l) (k := k - 1) (by omega)
          obtain ⟨h5, h6⟩ := h4 (by omega) r hr
          by_cases hlt2 : id r < id s
          · rw [h5 hlt2]
            exact ih (k + 1) (by omega) (by rw [upTo_succ, hu, upAt_next hs hr (by omega) hok]; simpa using hlt2)
          · rw [h6 (by omega), upTo_not (by rw [upAt_next hs hr (by omega) hok]; simpa using hlt2) hlt]; rfl
  exact key l.length 0 (by omega) (upTo_zero ok id l)
end Go.Proofs.Ytpcdaoeijlifmaa.QLoop

/- Chapter 5: combs, holes, gauges: the plain functions of the program and of the reference agree, and the laws answer true. (Q5Gauge) No condition but those of each theorem. -/
namespace Go.Proofs.Ytpcdaoeijlifmaa.Q5Gauge
set_option linter.unusedVariables false
set_option linter.unusedSimpArgs false
open Go.RowKit
open Go.Proofs.Ytpcdaoeijlifmaa.GoP Go.Proofs.Ytpcdaoeijlifmaa.PlainStamp Go.Proofs.Ytpcdaoeijlifmaa.QBase Go.Proofs.Ytpcdaoeijlifmaa.QLoop

theorem isGauge_eq (g : Int) : GiIsGauge.P g = some (inB g 500 2000) := by simp only [GiIsGauge.P, within_eq, Option.bind_some]
theorem l5Gauge_eq (g : Int) : GsL5Gauge.P g = some (inB g 500 2000) := by simp only [GsL5Gauge.P, l1In_eq, Option.bind_some]
end Go.Proofs.Ytpcdaoeijlifmaa.Q5Gauge

/- Chapter 5: combs, holes, gauges: the plain functions of the program and of the reference agree, and the laws answer true. (Q5Comb) No condition but those of each theorem. -/
namespace Go.Proofs.Ytpcdaoeijlifmaa.Q5Comb
set_option linter.unusedVariables false
set_option linter.unusedSimpArgs false
open Go.RowKit
open Go.Proofs.Ytpcdaoeijlifmaa.GoP Go.Proofs.Ytpcdaoeijlifmaa.PlainStamp Go.Proofs.Ytpcdaoeijlifmaa.QBase Go.Proofs.Ytpcdaoeijlifmaa.Q5Gauge Go.Proofs.Ytpcdaoeijlifmaa.QLoop Go.Proofs.Ytpcdaoeijlifmaa.PComb

def okCo (x : Comb) : Bool := inB x.id 1 99 && inB x.wide 500 2000 && inB x.high 500 2000
theorem isComb_eq (p : Comb) : GiIsComb.P p = some (okCo p) := by
  obtain ⟨a, b, c, d⟩ := p
  simp only [GiIsComb.P, unComb, within_eq, isGauge_eq, Option.bind_some, letK, joinK, appK, iteK_if, okCo]
  cases inB a 1 99 <;> cases inB b 500 2000 <;> cases inB c 500 2000 <;> simp
theorem l5One_eq (p : Comb) : GsL5One.P p = some (okCo p) := by
  obtain ⟨a, b, c, d⟩ := p
  simp only [GsL5One.P, unComb, l1In_eq, l5Gauge_eq, Option.bind_some, letK, joinK, appK, iteK_if, okCo]
  cases inB a 1 99 <;> cases inB b 500 2000 <;> cases inB c 500 2000 <;> simp
def okCos (l : List Comb) : Bool := upL 10 okCo Comb.id l
theorem areCombs_eq (l : List Comb) : GiAreCombs.P l = some (okCos l) := by
  simp only [GiAreCombs.P, GiAreByIdCombiIsCombiIdOfComb.P, letK, iteK_if]
  by_cases hl : l.length ≤ 10
  · rw [if_neg (by simp; omega), up_loop (ok := okCo) (id := Comb.id) (no := false)]
    · unfold okCos upL; cases upTo okCo Comb.id l l.length <;> simp [hl, GiAreByIdCombiIsCombiIdOfComb.e0]
    · intro k nx s hs
      have hi : idx l (k : Int) = some s := by rw [idx_nat, hs]
      have hk : k < l.length := (List.getElem?_eq_some_iff.1 hs).1
      simp only [GiAreByIdCombiIsCombiIdOfComb.l0, hi, Option.bind_some, unComb, isComb_eq, GiIdOfComb.P, letK, joinK, appK, iteK_if]
      refine ⟨fun h => by simp [h], fun h => ⟨fun h0 => by subst h0; simp [h], fun h0 r hr => ?_⟩⟩
      rw [idx_pred h0 (by omega) hr]
      have hk0 : (0 : Int) < (k : Int) := by omega
      have hk1 : ¬ k = 0 := by omega
      exact ⟨fun hlt => by (have hc : ¬ s.id ≤ r.id := by omega); simp [h, hk0, hk1, hc], fun hge => by simp [h, hk0, hk1, hge]⟩
  · rw [if_pos (by simp; omega)]; unfold okCos upL; simp [hl]
theorem l5Good_eq (l : List Comb) (hl : l.length ≤ 9223372036854775807) : GsL5Good.P l = some (okCos l) := by
  simp only [GsL5Good.P]
  rw [up_loop (ok := okCo) (id := Comb.id) (no := false)]
  · unfold okCos upL; cases upTo okCo Comb.id l l.length <;> simp [GsL5Good.e0, letK]; omega
  · intro k nx s hs
    have hi : idx l (k : Int) = some s := by rw [idx_nat, hs]
    have hk : k < l.length := (List.getElem?_eq_some_iff.1 hs).1
    simp only [GsL5Good.l0, hi, Option.bind_some, unComb, l5One_eq, letK, joinK, appK, iteK_if]
    refine ⟨fun h => by simp [h], fun h => ⟨fun h0 => by subst h0; simp [h], fun h0 r hr => ?_⟩⟩
    rw [idx_pred h0 (by omega) hr]
    have hk0 : (0 : Int) < (k : Int) := by omega
    have hk1 : ¬ k = 0 := by omega
    exact ⟨fun hlt => by (have hc : ¬ s.id ≤ r.id := by omega); simp [h, hk0, hk1, hc], fun hge => by simp [h, hk0, hk1, hge]⟩
end Go.Proofs.Ytpcdaoeijlifmaa.Q5Comb

/- Combs of the same gauges: the plain functions of the program and of the reference agree, and the law answers true. (Q5Same) No condition but those of each theorem. -/
namespace Go.Proofs.Ytpcdaoeijlifmaa.Q5Same
set_option linter.unusedVariables false
set_option linter.unusedSimpArgs false
open Go.RowKit
open Go.Proofs.Ytpcdaoeijlifmaa.GoP Go.Proofs.Ytpcdaoeijlifmaa.PlainStamp Go.Proofs.Ytpcdaoeijlifmaa.QBase Go.Proofs.Ytpcdaoeijlifmaa.Q5Comb Go.Proofs.Ytpcdaoeijlifmaa.QLoop Go.Proofs.Ytpcdaoeijlifmaa.PComb

def sm (x y : Comb) : Bool := y.wide == x.wide && y.high == x.high
def grp (l : List Comb) (x : Comb) : List Int := (l.filter (sm x)).map Comb.id
def gs (l : List Comb) : Nat → List (List Int)
  | 0 => []
  | i + 1 => match l[i]? with
    | none => gs l i
    | some x => if (l.take i).any (sm x) = true then gs l i else gs l i ++ [grp l x]
theorem gs_succ {l : List Comb} {i : Nat} {x : Comb} (h : l[i]? = some x) : gs l (i + 1) = if (l.take i).any (sm x) = true then gs l i else gs l i ++ [grp l x] := by
  show (match l[i]? with | none => gs l i | some x => if (l.take i).any (sm x) = true then gs l i else gs l i ++ [grp l x]) = _
  rw [h]
theorem gs_len (l : List Comb) : ∀ i, (gs l i).length ≤ i := by
  intro i
  induction i with
  | zero => simp [gs]
  | succ i ih =>
    cases h : l[i]? with
    | none => show (match l[i]? with | none => gs l i | some x => if (l.take i).any (sm x) = true then gs l i else gs l i ++ [grp l x]).length ≤ _; rw [h]; dsimp only; omega
    | some x =>
      rw [gs_succ h]
      split
      · omega
      · rw [List.length_append]; show (gs l i).length + 1 ≤ _; omega
theorem grp_len (l : List Comb) (x : Comb) : (grp l x).length ≤ l.length := by
  unfold grp; rw [List.length_map]; exact List.length_filter_le _ _
theorem gs_rows (l : List Comb) : ∀ i, ∀ row ∈ gs l i, row.length ≤ l.length := by
  intro i
  induction i with
  | zero => intro row h; simp [gs] at h
  | succ i ih =>
    intro row hr
    cases h : l[i]? with
    | none =>
      have e : gs l (i + 1) = gs l i := by
        show (match l[i]? with | none => gs l i | some x => if (l.take i).any (sm x) = true then gs l i else gs l i ++ [grp l x]) = _
        rw [h]
      rw [e] at hr
      exact ih row hr
    | some x =>
      rw [gs_succ h] at hr
      split at hr
      · exact ih row hr
      · rcases List.mem_append.1 hr with hr | hr
        · exact ih row hr
        · simp at hr; subst hr; exact grp_len l x
theorem same_eq (y x : Comb) : GiSameGauges1.P y x.id x.wide x.high x.line = some (sm x y) := by
  obtain ⟨a, b, c, d⟩ := y
  simp only [GiSameGauges1.P, unComb, letK, joinK, appK, iteK_if, sm]
  cases b == x.wide <;> simp
theorem any_eq (l : List Comb) (x : Comb) : GxSlicesContainsFuncLoopExampleG01062ImplCombLoopExampleG01062ImplCombiSameGauges1.P l x.id x.wide x.high x.line = some (l.any (sm x)) := by
  simp only [GxSlicesContainsFuncLoopExampleG01062ImplCombLoopExampleG01062ImplCombiSameGauges1.P, letK]
  obtain ⟨c, hc, hi⟩ : ∃ c, GxSlicesIndexFuncLoopExampleG01062ImplCombLoopExampleG01062ImplCombiSameGauges1.P l x.id x.wide x.high x.line = some c ∧ (0 ≤ c ↔ l.any (sm x) = true) := by
    simp only [GxSlicesIndexFuncLoopExampleG01062ImplCombLoopExampleG01062ImplCombiSameGauges1.P]
    refine cnt_ex (n := l.length) (Q := fun c => 0 ≤ c ↔ l.any (sm x) = true) (fun j _ => ∀ i y, i < j → l[i]? = some y → sm x y = false) ?_ ?_ l.length 0 () (by omega) (fun i y hi _ => by omega)
    · intro j _ nx hj hI hn
      obtain ⟨y, hy, hyi⟩ := at_lt (l := l) (k := j) hj
      have hs := same_eq y x
      obtain ⟨a, b, c, d⟩ := y
      simp only [GxSlicesIndexFuncLoopExampleG01062ImplCombLoopExampleG01062ImplCombiSameGauges1.l0, hyi, Option.bind_some, unComb, hs, appK, iteK_if]
      cases hf : sm x ⟨a, b, c, d⟩ with
      | true => exact ⟨_, by rw [if_pos rfl], ⟨fun _ => List.any_eq_true.2 ⟨_, List.mem_of_getElem? hy, hf⟩, fun _ => by omega⟩⟩
      | false =>
        rw [if_neg (by simp)]
        refine hn () (fun i y' hi hy' => ?_)
        by_cases he : i = j
        · subst he; obtain rfl := Option.some.inj (hy.symm.trans hy'); exact hf
        · exact hI i y' (by omega) hy'
    · intro _ hI
      refine ⟨_, rfl, ⟨fun h => by omega, fun h => ?_⟩⟩
      exfalso
      obtain ⟨y, hy, hf⟩ := List.any_eq_true.1 h
      obtain ⟨i, hi⟩ := List.getElem?_of_mem hy
      rw [hI i y (List.getElem?_eq_some_iff.1 hi).1 hi] at hf
      simp at hf
  rw [hc]
  simp only [Option.bind_some]
  cases hf : l.any (sm x) with
  | true => rw [decide_eq_true (hi.2 hf)]
  | false => rw [decide_eq_false (fun h => by rw [hi.1 h] at hf; exact absurd hf (by simp))]
theorem filt_succ {l : List Comb} {k : Nat} {y : Comb} (h : l[k]? = some y) (x : Comb) : ((l.take (k + 1)).filter (sm x)).map Comb.id = if sm x y = true then ((l.take k).filter (sm x)).map Comb.id ++ [y.id] else ((l.take k).filter (sm x)).map Comb.id := by
  rw [take_next h, List.filter_append, List.map_append]
  cases hs : sm x y <;> simp [List.filter, hs]
theorem ids_eq (l : List Comb) (x : Comb) (hl : l.length ≤ 1000) : GiIdsWhereCombiIdOfCombiSameGauges1.P l x.id x.wide x.high x.line = some (grp l x) := by
  simp only [GiIdsWhereCombiIdOfCombiSameGauges1.P]
  refine cnt_is _ (fun k s => s = ((l.take k).filter (sm x)).map Comb.id ∧ s.length ≤ k) ?_ ?_ [] ⟨by simp, by simp⟩
  · rintro k s nx hk ⟨h1, h2⟩ hn
    obtain ⟨y, hy, hyi⟩ := at_lt (l := l) (k := k) hk
    have hf := filt_succ hy x
    have hs := same_eq y x
    obtain ⟨a, b, c, d⟩ := y
    simp only [GiIdsWhereCombiIdOfCombiSameGauges1.l0, hyi, Option.bind_some, unComb, hs, GiIdOfComb.P, letK, appK, iteK_if]
    cases hsm : sm x ⟨a, b, c, d⟩ with
    | true =>
      rw [hsm, if_pos rfl] at hf
      rw [if_pos rfl, guardK_pos (by omega)]
      exact hn _ ⟨by rw [hf, h1], by rw [List.length_append]; show s.length + 1 ≤ _; omega⟩
    | false =>
      rw [hsm, if_neg (by simp)] at hf
      rw [if_neg (by simp)]
      exact hn _ ⟨by rw [hf, h1], by omega⟩
  · rintro s ⟨h1, h2⟩
    simp only [GiIdsWhereCombiIdOfCombiSameGauges1.e0, letK]
    rw [h1, List.take_length]; rfl
theorem same_impl (l : List Comb) : GiSameGauges.P l = some (if okCos l = true then (gs l l.length, true) else ([], false)) := by
  simp only [GiSameGauges.P, areCombs_eq, Option.bind_some, letK, iteK_if]
  cases h : okCos l with
  | false => simp
  | true =>
    have hl : l.length ≤ 10 := upL_len h
    rw [if_neg (by simp), if_pos rfl]
    refine cnt_is _ (fun i o => o = gs l i ∧ o.length ≤ i) ?_ ?_ [] ⟨rfl, by simp⟩
    · rintro i o nx hi ⟨h1, h2⟩ hn
      obtain ⟨x, hx, hxi⟩ := at_lt (l := l) (k := i) hi
      have hg := gs_succ hx
      have ha := any_eq (l.take i) x
      have hd := ids_eq l x (by omega)
      obtain ⟨a, b, c, d⟩ := x
      dsimp only at ha hd
      simp only [GiSameGauges.l0, letK, hxi, Option.bind_some, unComb, iteK_if]
      rw [guardK_pos (by omega), Int.toNat_natCast, ha]
      simp only [Option.bind_some, hd]
      cases hb : (l.take i).any (sm ⟨a, b, c, d⟩) with
      | true =>
        rw [hb, if_pos rfl] at hg
        rw [if_neg (by simp)]
        exact hn _ ⟨by rw [hg, h1], by omega⟩
      | false =>
        rw [hb, if_neg (by simp)] at hg
        rw [if_pos (by simp), guardK_pos (by omega)]
        exact hn _ ⟨by rw [hg, h1], by rw [List.length_append]; show o.length + 1 ≤ _; omega⟩
    · rintro o ⟨h1, h2⟩
      simp only [GiSameGauges.e0, letK, h1]
theorem same_spec (l : List Comb) (hl0 : l.length ≤ 9223372036854775807) : GsSameGauges.P l = some (if okCos l = true then (gs l l.length, true) else ([], false)) := by
  simp only [GsSameGauges.P, l5Good_eq l hl0, Option.bind_some, letK, iteK_if]
  cases h : okCos l with
  | false => simp
  | true =>
    have hl : l.length ≤ 10 := upL_len h
    rw [if_neg (by simp), if_pos rfl]
    refine cnt_is _ (fun i o => o = gs l i ∧ o.length ≤ i) ?_ ?_ [] ⟨rfl, by simp⟩
    · rintro i o nx hi ⟨h1, h2⟩ hn
      obtain ⟨x, hx, hxi⟩ := at_lt (l := l) (k := i) hi
      have hg := gs_succ hx
      simp only [GsSameGauges.l0, letK]
      refine cnt_is _ (fun k (s : List Int × Bool) => s.1 = ((l.take k).filter (sm x)).map Comb.id ∧ s.1.length ≤ k ∧ s.2 = !((l.take (min k i)).any (sm x))) ?_ ?_ ([], true) ⟨by simp, by simp, by simp⟩
      · rintro k ⟨ids, fst⟩ nx2 hk ⟨g1, g2, g3⟩ hn2
        dsimp only at g1 g2 g3
        obtain ⟨y, hy, hyi⟩ := at_lt (l := l) (k := k) hk
        have hf := filt_succ hy x
        have hm : (l.take (min (k + 1) i)).any (sm x) = ((l.take (min k i)).any (sm x) || (decide (k < i) && sm x y)) := by
          by_cases hki : k < i
          · rw [Nat.min_eq_left (by omega), Nat.min_eq_left (by omega), take_next hy]
            simp [hki]
          · rw [Nat.min_eq_right (by omega), Nat.min_eq_right (by omega)]
            simp [hki]
        obtain ⟨a, b, c, d⟩ := x
        obtain ⟨a', b', c', d'⟩ := y
        have hsm : sm ⟨a, b, c, d⟩ ⟨a', b', c', d'⟩ = (b' == b && c' == c) := rfl
        simp only [GsSameGauges.l1, unp2, hyi, hxi, Option.bind_some, unComb, letK, joinK, appK, iteK_if]
        have hkk : decide ((i : Int) ≤ (k : Int)) = !decide (k < i) := by
          by_cases hki : k < i
          · first | (simp [hki]; done) | (simp [hki]; omega)
          · first | (simp [hki]; done) | (simp [hki]; omega)
        rw [hkk]
        cases hb : b' == b with
        | false =>
          rw [hsm, hb] at hf hm
          simp only [Bool.false_and, Bool.and_false, Bool.or_false, Bool.false_eq_true, if_false] at hf hm ⊢
          exact hn2 _ ⟨by rw [hf]; exact g1, by dsimp only; omega, by dsimp only; rw [hm]; exact g3⟩
        | true =>
          cases hc : c' == c with
          | false =>
            rw [hsm, hb, hc] at hf hm
            simp only [Bool.true_and, Bool.and_false, Bool.or_false, Bool.false_eq_true, if_false, if_true] at hf hm ⊢
            exact hn2 _ ⟨by rw [hf]; exact g1, by dsimp only; omega, by dsimp only; rw [hm]; exact g3⟩
          | true =>
            rw [hsm, hb, hc] at hf hm
            simp only [Bool.true_and, Bool.and_true, if_true] at hf hm ⊢
            rw [guardK_pos (by omega)]
            have fin := hn2 (ids ++ [a'], !((l.take (min (k + 1) i)).any (sm ⟨a, b, c, d⟩))) ⟨by rw [hf, g1], by dsimp only; rw [List.length_append]; show ids.length + 1 ≤ _; omega, rfl⟩
            rw [hm, Bool.not_or, ← g3] at fin
            cases fst with
            | true => simpa using fin
            | false => simpa using fin
      · rintro ⟨ids, fst⟩ ⟨g1, g2, g3⟩
        dsimp only at g1 g2 g3
        rw [Nat.min_eq_right (by omega)] at g3
        rw [List.take_length] at g1
        simp only [GsSameGauges.e1, unp2, letK, appK, iteK_if]
        cases hb : (l.take i).any (sm x) with
        | true =>
          rw [hb, if_pos rfl] at hg
          rw [hb] at g3
          rw [if_neg (by rw [g3]; simp)]
          exact hn _ ⟨by rw [hg, h1], by omega⟩
        | false =>
          rw [hb, if_neg (by simp)] at hg
          rw [hb] at g3
          rw [if_pos (by rw [g3]; rfl), guardK_pos (by omega)]
          exact hn _ ⟨by rw [hg, h1, g1]; rfl, by rw [List.length_append]; show o.length + 1 ≤ _; omega⟩
    · rintro o ⟨h1, h2⟩
      simp only [GsSameGauges.e0, letK, h1]
end Go.Proofs.Ytpcdaoeijlifmaa.Q5Same

/- Combs of the same gauges: the plain functions of the program and of the reference agree, and the law answers true. (QHSS) No condition but those of each theorem. -/
namespace Go.Proofs.Ytpcdaoeijlifmaa.QHSS
set_option linter.unusedVariables false
set_option linter.unusedSimpArgs false
open Go.RowKit
open Go.Proofs.Ytpcdaoeijlifmaa.GoP Go.Proofs.Ytpcdaoeijlifmaa.PlainStamp Go.Proofs.Ytpcdaoeijlifmaa.QBase Go.Proofs.Ytpcdaoeijlifmaa.QLoop

theorem eqI3 (l : List Int) : GlEqIntS.P l l = some true := by
  simp only [GlEqIntS.P, letK, iteK_if]
  rw [if_neg (by simp)]
  refine cnt_is true (fun _ _ => True) ?_ (fun s _ => rfl) () trivial
  intro k s nx hk _ hn
  obtain ⟨x, hx, hi⟩ := at_lt (l := l) (k := k) hk
  simp only [GlEqIntS.l0, hi, Option.bind_some, letK, appK, iteK_if]
  rw [if_neg (by simp)]
  exact hn () trivial
theorem eqSS (l : List (List Int)) : GlEqIntSS.P l l = some true := by
  simp only [GlEqIntSS.P, letK, iteK_if]
  rw [if_neg (by simp)]
  refine cnt_is true (fun _ _ => True) ?_ (fun s _ => rfl) () trivial
  rintro k ⟨⟩ nx hk _ hn
  obtain ⟨x, hx, hi⟩ := at_lt (l := l) (k := k) hk
  simp only [GlEqIntSS.l0, hi, Option.bind_some, eqI3, letK, appK, iteK_if]
  rw [if_neg (by simp)]
  exact hn () trivial
/-- c, c + 1 .. -/
def upsF (c : Int) (n : Nat) : List Int := (List.range n).map fun i : Nat => c + (i : Int)
theorem upsF_at {c : Int} {n k : Nat} (h : k < n) : (upsF c n)[k]? = some (c + (k : Int)) := by unfold upsF; simp [h]
theorem upsF_len (c : Int) (n : Nat) : (upsF c n).length = n := by simp [upsF]
theorem markF (l : List Int) (c : Int) (h0 : 0 ≤ c) (h1 : c + l.length ≤ 1099511627776) : GlMarkIntS.P l c = some (c + (l.length : Int), upsF c l.length) := by
  simp only [GlMarkIntS.P]
  refine cnt_is _ (fun k (s : List Int × Int) => s.1.length = l.length ∧ s.2 = c + (k : Int) ∧ ∀ i : Nat, i < k → s.1[i]? = some (c + (i : Int))) ?_ ?_ (l, c) ⟨rfl, by simp, fun i hi => by omega⟩
  · rintro k ⟨a, b⟩ nx hk ⟨h1, h2, h3⟩ hn
    dsimp only at h1 h2 h3
    obtain ⟨x, hx, hi⟩ := at_lt (l := a) (k := k) (by omega)
    simp only [GlMarkIntS.l0, unp2, hi, Option.bind_some, letK, appK]
    rw [wrap_in (by omega) (by omega)]
    refine hn _ ⟨by simpa using h1, by dsimp only; omega, fun i hi2 => ?_⟩
    dsimp only
    by_cases he : i = k
    · subst he; rw [List.getElem?_set_self (by omega), h2]
    · rw [List.getElem?_set_ne (by omega)]; exact h3 i (by omega)
  · rintro ⟨a, b⟩ ⟨h1, h2, h3⟩
    dsimp only at h1 h2 h3
    have : a = upsF c l.length := by
      apply List.ext_getElem?
      intro i
      by_cases hi : i < l.length
      · rw [h3 i hi, upsF_at hi]
      · rw [List.getElem?_eq_none (by omega), List.getElem?_eq_none (by rw [upsF_len]; omega)]
    simp only [GlMarkIntS.e0, unp2]
    rw [this, h2]
theorem heldF (c : Int) (n : Nat) (h0 : 0 ≤ c) (h1 : c + n ≤ 1099511627776) : GlHeldIntS.P (upsF c n) c = some (c + (n : Int)) := by
  simp only [GlHeldIntS.P]
  refine cnt_is _ (fun k s => s = c + (k : Int)) ?_ ?_ c (by simp)
  · intro k s nx hk hI hn
    rw [upsF_len] at hk
    have hi : idx (upsF c n) (k : Int) = some (c + (k : Int)) := by rw [idx_nat, upsF_at hk]
    simp only [GlHeldIntS.l0, hi, Option.bind_some, letK, appK, iteK_if]
    rw [if_neg (by simp [hI]), wrap_in (by omega) (by omega)]
    exact hn _ (by omega)
  · intro s hI
    simp only [GlHeldIntS.e0, letK]
    rw [hI, upsF_len]
def st (g : List (List Int)) (i : Nat) : Nat := 1 + ((g.take i).map List.length).sum
theorem st_succ {g : List (List Int)} {k : Nat} {row : List Int} (h : g[k]? = some row) : st g (k + 1) = st g k + row.length := by
  unfold st
  rw [take_next h, List.map_append, List.sum_append]
  simp; omega
theorem st_le {g : List (List Int)} {m : Nat} (h : ∀ row ∈ g, row.length ≤ m) : ∀ i, i ≤ g.length → st g i ≤ 1 + m * i := by
  intro i
  induction i with
  | zero => intro _; simp [st]
  | succ i ih =>
    intro hi
    obtain ⟨row, hr, _⟩ := at_lt (l := g) (k := i) (by omega)
    have h1 := h row (List.mem_of_getElem? hr)
    have h2 := ih (by omega)
    rw [st_succ hr, Nat.mul_succ]
    omega
theorem markSS (g : List (List Int)) (hb : ∀ row ∈ g, row.length ≤ 1000) (hl : g.length ≤ 1000) : ∃ M, GlMarkIntSS.P g 1 = some ((st g g.length : Int), M) ∧ GlHeldIntSS.P M 1 = some (st g g.length : Int) := by
  have hst : ∀ i, i ≤ g.length → st g i ≤ 1000001 := by
    intro i hi
    have := st_le hb i hi
    have h2 : 1000 * i ≤ 1000 * 1000 := Nat.mul_le_mul_left 1000 (by omega)
    omega
  obtain ⟨⟨v, M⟩, h, hv, hM, hrow⟩ : ∃ r : Int × List (List Int), GlMarkIntSS.P g 1 = some r ∧ r.1 = (st g g.length : Int) ∧ r.2.length = g.length ∧ ∀ (i : Nat) (row : List Int), g[i]? = some row → r.2[i]? = some (upsF (st g i : Int) row.length) := by
    simp only [GlMarkIntSS.P]
    refine cnt_ex (n := g.length) (Q := fun r : Int × List (List Int) => r.1 = (st g g.length : Int) ∧ r.2.length = g.length ∧ ∀ (i : Nat) (row : List Int), g[i]? = some row → r.2[i]? = some (upsF (st g i : Int) row.length)) (fun k (s : List (List Int) × Int) => s.1.length = g.length ∧ s.2 = (st g k : Int) ∧ (∀ (i : Nat) (row : List Int), i < k → g[i]? = some row → s.1[i]? = some (upsF (st g i : Int) row.length)) ∧ ∀ i : Nat, k ≤ i → s.1[i]? = g[i]?) ?_ ?_ g.length 0 (g, 1) (by omega) ⟨rfl, by simp [st], fun i row hi _ => by omega, fun i _ => rfl⟩
    · rintro k ⟨a, b⟩ nx hk ⟨h1, h2, h3, h4⟩ hn
      dsimp only at h1 h2 h3 h4
      obtain ⟨row, hr, _⟩ := at_lt (l := g) (k := k) hk
      have ha := h4 k (Nat.le_refl _)
      rw [hr] at ha
      have hai : idx a (k : Int) = some row := by rw [idx_nat, ha]
      have hs := hst (k + 1) (by omega)
      rw [st_succ hr] at hs
      simp only [GlMarkIntSS.l0, unp2, hai, Option.bind_some, h2]
      rw [markF row (st g k : Int) (by omega) (by omega)]
      simp only [bind2_some, letK, appK]
      refine hn _ ⟨by dsimp only; rw [List.length_set]; exact h1, by dsimp only; rw [st_succ hr]; omega, fun i row' hi hr' => ?_, fun i hi => ?_⟩
      · dsimp only
        by_cases he : i = k
        · subst he
          obtain rfl := Option.some.inj (hr.symm.trans hr')
          rw [List.getElem?_set_self (by omega)]
        · rw [List.getElem?_set_ne (by omega)]
          exact h3 i row' (by omega) hr'
      · dsimp only
        rw [List.getElem?_set_ne (by omega)]
        exact h4 i (by omega)
    · rintro ⟨a, b⟩ ⟨h1, h2, h3, h4⟩
      dsimp only at h1 h2 h3 h4
      exact ⟨_, rfl, h2, h1, fun i row hr => h3 i row (List.getElem?_eq_some_iff.1 hr).1 hr⟩
  dsimp only at hv hM hrow
  refine ⟨M, by rw [h, hv], ?_⟩
  simp only [GlHeldIntSS.P]
  refine cnt_is _ (fun k s => s = (st g k : Int)) ?_ ?_ 1 (by simp [st])
  · intro k s nx hk hI hn
    obtain ⟨row, hr, _⟩ := at_lt (l := g) (k := k) (by omega)
    have hMi : idx M (k : Int) = some (upsF (st g k : Int) row.length) := by rw [idx_nat, hrow k row hr]
    have hs := hst (k + 1) (by omega)
    rw [st_succ hr] at hs
    simp only [GlHeldIntSS.l0, letK, hMi, Option.bind_some, hI]
    rw [heldF (st g k : Int) row.length (by omega) (by omega)]
    simp only [Option.bind_some, appK, iteK_if]
    rw [if_neg (by simp; omega)]
    exact hn _ (by rw [st_succ hr]; omega)
  · intro s hI
    simp only [GlHeldIntSS.e0, letK]
    rw [hI, hM]
end Go.Proofs.Ytpcdaoeijlifmaa.QHSS

/- The laws' helpers on Comb and on slices of it as plain functions: copied, equal, their bulk. No condition. -/
namespace Go.Proofs.Ytpcdaoeijlifmaa.QHCombE
set_option linter.unusedVariables false
set_option linter.unusedSimpArgs false
open Go.RowKit
open Go.Proofs.Ytpcdaoeijlifmaa.GoP Go.Proofs.Ytpcdaoeijlifmaa.QBase Go.Proofs.Ytpcdaoeijlifmaa.QLoop Go.Proofs.Ytpcdaoeijlifmaa.PComb

theorem toOne (s : Comb) : GlToComb.P s = some s := by cases s; rfl
theorem eqOne (s : Comb) : GlEqComb.P s s = some true := by
  obtain ⟨x0, x1, x2, x3⟩ := s
  simp [GlEqComb.P, unComb, letK, joinK, appK, iteK_if]
theorem toS (l : List Comb) (hl : l.length ≤ 1048576) : GlToCombS.P l = some l := by
  simp only [GlToCombS.P, letK]
  rw [guardK_pos (by omega)]
  refine cnt_is l (fun k s => s = l.take k ++ List.replicate (l.length - k) (Comb.mk 0 0 0 false)) ?_ ?_ _ (by simp)
  · intro k s nx hk hI hn
    obtain ⟨x, hx, hi⟩ := at_lt (l := l) (k := k) hk
    have hlen : s.length = l.length := by rw [hI]; simp; omega
    obtain ⟨z, hz, hj⟩ := at_lt (l := s) (k := k) (by omega)
    simp only [GlToCombS.l0, hi, hj, toOne, Option.bind_some, unComb, letK, appK]
    refine hn _ ?_
    rw [hI, take_next hx, List.set_append_right _ _ (by simp; omega)]
    have hr : l.length - k = (l.length - (k + 1)) + 1 := by omega
    rw [hr, List.replicate_succ, List.append_assoc]
    simp [show k - min k l.length = 0 by omega]
  · intro s hI
    rw [hI]; simp [GlToCombS.e0, letK]
theorem eqS (l : List Comb) : GlEqCombS.P l l = some true := by
  simp only [GlEqCombS.P, letK, iteK_if]
  rw [if_neg (by simp)]
  refine cnt_is true (fun _ _ => True) ?_ (fun s _ => rfl) () trivial
  intro k s nx hk _ hn
  obtain ⟨x, hx, hi⟩ := at_lt (l := l) (k := k) hk
  simp only [GlEqCombS.l0, hi, Option.bind_some, unComb, eqOne, letK, appK, iteK_if]
  exact hn () trivial
theorem szS (l : List Comb) (hl : l.length ≤ 9223372036854775807) : GlSzCombS.P l 1048576 = some (if l.length ≤ 1048576 then 1048576 - (l.length : Int) else -1) := by
  simp only [GlSzCombS.P, letK, iteK_if]
  rw [wrap_in (by omega) (by omega)]
  by_cases h : l.length ≤ 1048576
  · rw [if_neg (by simp; omega), if_pos h]
  · rw [if_pos (by simp; omega), if_neg h]
end Go.Proofs.Ytpcdaoeijlifmaa.QHCombE

/- The laws' helper that marks a slice of Comb as a plain function. No condition. -/
namespace Go.Proofs.Ytpcdaoeijlifmaa.QHComb
set_option linter.unusedVariables false
set_option linter.unusedSimpArgs false
open Go.RowKit
open Go.Proofs.Ytpcdaoeijlifmaa.GoP Go.Proofs.Ytpcdaoeijlifmaa.QBase Go.Proofs.Ytpcdaoeijlifmaa.QLoop Go.Proofs.Ytpcdaoeijlifmaa.PComb 
theorem set_at {α : Type} {l : List α} {k : Nat} (x : α) (h : k < l.length) : idx (l.set k x) (k : Int) = some x := by rw [idx_nat, List.getElem?_set_self h]
theorem markS (l : List Comb) (hl : l.length ≤ 1048576) : ∃ v l', GlMarkCombS.P l 1 = some (v, l') ∧ 0 ≤ v := by
  obtain ⟨⟨v, l'⟩, h, hv⟩ : ∃ r : Int × List Comb, GlMarkCombS.P l 1 = some r ∧ 0 ≤ r.1 := by
    simp only [GlMarkCombS.P]
    refine cnt_ex (n := l.length) (Q := fun r : Int × List Comb => 0 ≤ r.1) (fun k (s : List Comb × Int) => s.1.length = l.length ∧ s.2 = 4 * (k : Int) + 1) ?_ ?_ l.length 0 (l, 1) (by omega) ⟨rfl, rfl⟩
    · rintro k ⟨a, b⟩ nx hk ⟨h1, h2⟩ hn
      dsimp only at h1 h2
      obtain ⟨x, hx, hi⟩ := at_lt (l := a) (k := k) (by omega)
      have ha : k < a.length := by omega
      have w1 : IntKind.i64.wrap (b + 1) = b + 1 := wrap_in (by omega) (by omega)
      have w2 : IntKind.i64.wrap (b + 1 + 1) = b + 1 + 1 := wrap_in (by omega) (by omega)
      have w3 : IntKind.i64.wrap (b + 1 + 1 + 1) = b + 1 + 1 + 1 := wrap_in (by omega) (by omega)
      have w4 : IntKind.i64.wrap (b + 1 + 1 + 1 + 1) = b + 1 + 1 + 1 + 1 := wrap_in (by omega) (by omega)
      simp (disch := simp [ha]) only [GlMarkCombS.l0, unp2, hi, set_at, Option.bind_some, unComb, letK, appK, w1, w2, w3, w4]
      exact hn _ ⟨by simpa using h1, by dsimp only; omega⟩
    · rintro ⟨a, b⟩ ⟨h1, h2⟩
      exact ⟨_, rfl, by dsimp only at h2 ⊢; omega⟩
  exact ⟨v, l', h, hv⟩
end Go.Proofs.Ytpcdaoeijlifmaa.QHComb

/- Combs of the same gauges: the plain functions of the program and of the reference agree, and the law answers true. (QL5Same) No condition but those of each theorem. -/
namespace Go.Proofs.Ytpcdaoeijlifmaa.QL5Same
set_option linter.unusedVariables false
set_option linter.unusedSimpArgs false
open Go.RowKit
open Go.Proofs.Ytpcdaoeijlifmaa.GoP Go.Proofs.Ytpcdaoeijlifmaa.PlainStamp Go.Proofs.Ytpcdaoeijlifmaa.QBase Go.Proofs.Ytpcdaoeijlifmaa.Q5Same Go.Proofs.Ytpcdaoeijlifmaa.Q5Comb Go.Proofs.Ytpcdaoeijlifmaa.QLoop Go.Proofs.Ytpcdaoeijlifmaa.PComb Go.Proofs.Ytpcdaoeijlifmaa.QHSS Go.Proofs.Ytpcdaoeijlifmaa.QHCombE Go.Proofs.Ytpcdaoeijlifmaa.QHComb

theorem law_same (l : List Comb) (hl : l.length ≤ 9223372036854775807) : GlFnExactSameGauges.P l = some true := by
  simp only [GlFnExactSameGauges.P, szS l hl, Option.bind_some, letK, iteK_if]
  by_cases hb : l.length ≤ 1048576
  · have hv : ¬ (1048576 - (l.length : Int) < 0) := by omega
    obtain ⟨⟨a, b⟩, hr, ha, hal⟩ : ∃ x : List (List Int) × Bool, x = (if okCos l = true then (gs l l.length, true) else ([], false)) ∧ (∀ row ∈ x.1, row.length ≤ 1000) ∧ x.1.length ≤ 1000 := by
      refine ⟨_, rfl, ?_⟩
      cases h : okCos l with
      | false => simp
      | true =>
        have hl10 : l.length ≤ 10 := upL_len h
        have h1 := gs_len l l.length
        refine ⟨fun row hr => ?_, ?_⟩
        · have := gs_rows l l.length row (by simpa using hr); omega
        · show (gs l l.length).length ≤ 1000; omega
    dsimp only at ha hal
    obtain ⟨M, hM, hH⟩ := markSS a ha hal
    obtain ⟨v, l', hm, hv2⟩ := markS l hb
    have hv3 : ¬ v < 0 := by omega
    have e1 : ¬ ((st a a.length : Int) < 0) := by omega
    simp [hb, hv, toS l hb, same_spec l hl, same_impl l, ← hr, eqSS, eqS, hm, hv3, hM, hH, e1, bind2, joinK, appK, iteK_if]
  · simp [hb]
end Go.Proofs.Ytpcdaoeijlifmaa.QL5Same

