/- Texts on which the proofs of several laws stand, one behind the other (6 of 18). No condition of their own. -/
import Derived.Test.YtgimcnpkngpmiaaChecked
import Derived.Test.YtgimcnpkngpmiaaX11P1
import Derived.Test.YtgimcnpkngpmiaaX11P2
import Derived.Test.YtgimcnpkngpmiaaX11P4
import Derived.Test.YtgimcnpkngpmiaaX11P5
import Derived.WalkKit
import Derived.WalkSpells
import Derived.WalkLawsBesides
import Derived.BigQuiet
import Derived.OwnWalk
import Derived.Deep.LoopGhost
import Derived.Deep.QuietTactic
import Derived.IntWalk
import Derived.Lib.QuietBelow
import Derived.Test.YtgimcnpkngpmiaaX11P3
import Derived.Deep.AppendLies
/- loop.example/g01062/spec.ExtendUse as a plain function, and the contract of the program's: where the plain one has an answer, the program has it. Conditions: slices read as lists. -/
namespace Go.Proofs.Ytgimcnpkngpmiaa.GsExtendUse
set_option linter.unusedVariables false
set_option linter.unusedSimpArgs false
open Go.RowKit
open Go.Proofs.Ytgimcnpkngpmiaa.Rowed Go.Proofs.Ytgimcnpkngpmiaa.Turn Go.Proofs.Ytgimcnpkngpmiaa.Aid Go.Proofs.Ytgimcnpkngpmiaa.GoP Go.Proofs.Ytgimcnpkngpmiaa.GoM

def P (fuel : Nat) (list : (List Go.Proofs.Ytgimcnpkngpmiaa.PPostmark.Postmark)) (id : Int) (day : Int) : Option ((List Go.Proofs.Ytgimcnpkngpmiaa.PPostmark.Postmark) × Int × Bool) :=
  Option.bind (Go.Proofs.Ytgimcnpkngpmiaa.GsL11Find.P list id) fun (t_5 : Int) =>
  Option.bind (Go.Proofs.Ytgimcnpkngpmiaa.GsL11Good.P fuel list) fun (t_8 : Bool) =>
  letK (!t_8) fun (t_9 : Bool) =>
  joinK (fun (t_13 : Bool) =>
  joinK (fun (t_18 : Bool) =>
  iteK t_18
  (some (([] : List Go.Proofs.Ytgimcnpkngpmiaa.PPostmark.Postmark), 0, false))
  (guardK (([] : List Go.Proofs.Ytgimcnpkngpmiaa.PPostmark.Postmark).length + list.length ≤ 1099511627776) <|
  letK (([] : List Go.Proofs.Ytgimcnpkngpmiaa.PPostmark.Postmark) ++ list) fun (t_25 : (List Go.Proofs.Ytgimcnpkngpmiaa.PPostmark.Postmark)) =>
  Option.bind (idx t_25 t_5) fun (yt_29 : Go.Proofs.Ytgimcnpkngpmiaa.PPostmark.Postmark) =>
  unPostmark yt_29 fun (t_29_id : Int) (t_29_town : ByteArray) (t_29_kind_ : Int) (t_29_first : Int) (t_29_last : Int) (t_29_lost : ByteArray) =>
  letK (IntKind.i64.wrap (t_29_first - day)) fun (t_36 : Int) =>
  Option.bind (Go.Proofs.Ytgimcnpkngpmiaa.GsL1Most.P 0 t_36) fun (t_37 : Int) =>
  letK (IntKind.i64.wrap (day - t_29_last)) fun (t_41 : Int) =>
  Option.bind (Go.Proofs.Ytgimcnpkngpmiaa.GsL1Most.P 0 t_41) fun (t_42 : Int) =>
  letK (IntKind.i64.wrap (t_37 + t_42)) fun (t_43 : Int) =>
  Option.bind (Go.Proofs.Ytgimcnpkngpmiaa.GsL1Least.P t_29_first day) fun (t_48 : Int) =>
  Option.bind (Go.Proofs.Ytgimcnpkngpmiaa.GsL1Most.P t_29_last day) fun (t_54 : Int) =>
  Option.bind (idx t_25 t_5) fun (yt_60 : Go.Proofs.Ytgimcnpkngpmiaa.PPostmark.Postmark) =>
  unPostmark yt_60 fun (t_60_id : Int) (t_60_town : ByteArray) (t_60_kind_ : Int) (t_60_first : Int) (t_60_last : Int) (t_60_lost : ByteArray) =>
  letK (t_25.set (t_5).toNat (Go.Proofs.Ytgimcnpkngpmiaa.PPostmark.Postmark.mk t_29_id t_29_town t_29_kind_ t_48 t_54 t_29_lost)) fun (l61_61 : (List Go.Proofs.Ytgimcnpkngpmiaa.PPostmark.Postmark)) =>
  some (l61_61, t_43, true))) fun jt_18 => iteK t_13 (appK jt_18 true) (Option.bind (Go.Proofs.Ytgimcnpkngpmiaa.GsL2Day.P day) fun (t_16 : Bool) =>
  letK (!t_16) fun (t_17 : Bool) =>
  appK jt_18 t_17)) fun jt_13 => iteK t_9 (appK jt_13 true) (letK (decide (t_5 < 0)) fun (t_12 : Bool) =>
  appK jt_13 t_12)

set_option maxRecDepth 100000 in
set_option maxHeartbeats 2000000 in
theorem C (fuel : Nat) (list : (List Go.Proofs.Ytgimcnpkngpmiaa.PPostmark.Postmark)) (id : Int) (day : Int) (A0 : Option Addr) (c0 : Nat)  (w : World) (M0 : Hid (Cells w 6 A0 list.length (Go.Proofs.Ytgimcnpkngpmiaa.PPostmark.flat list))) (N0 : Hid (list.length ≤ 9223372036854775807)) (Q0 : Hid (Room A0 list.length c0))  {r0 : (List Go.Proofs.Ytgimcnpkngpmiaa.PPostmark.Postmark)} {r1 : Int} {r2 : Bool} (H : Hid (P fuel list id day = some (r0, r1, r2))) :
    Calls Try.prog 29 #[.slice A0 list.length c0, .int .i64 id, .int .i64 day] w (fun e w' => ∃ A_r0 c_r0, e = .returned (.tuple #[.slice A_r0 r0.length c_r0, .int .i64 r1, .bool r2]) ∧ w'.ownsRow w.heap.size 26 6 (.slice A_r0 r0.length c_r0) r0.length (Go.Proofs.Ytgimcnpkngpmiaa.PPostmark.flat r0) ∧ Below w.heap.size w w') := by
  have HB := Lib.hid (Below.refl w.heap.size w)
  unfold P at H
  have N0o := N0.out
  obtain ⟨i0_26, hi_26, hz0_26, hz1_26, hz2_26⟩ := Aid.info_parts (P := Try.prog) (T := 26) (z := .agg #[.int .i64 0, .string ByteArray.empty, .int .i64 0, .int .i64 0, .int .i64 0, .string ByteArray.empty]) (s := 6) (b := 64) (by kernel_rfl)
  go_enter Try.func29, Try.ntmps29
  replace H := bind_hid H
  obtain ⟨t_5, qt_5, H⟩ := H
  go_wp2_with fail
  go_at_call 51
  refine (Go.Proofs.Ytgimcnpkngpmiaa.GsL11Find.C (list) (id) A0 c0 _   (Lib.hid (Cells.below M0.out HB.out)) N0 qt_5).mono ?_
  rintro e_t_5 wt_5 ⟨rfl, bt_5⟩
  have HBwt_5 := Lib.hid (Below.step HB.out bt_5)
  clear bt_5
  replace H := bind_hid H
  obtain ⟨t_8, qt_8, H⟩ := H
  go_wp2_with fail
  go_at_call 45
  refine (Go.Proofs.Ytgimcnpkngpmiaa.GsL11Good.C fuel (list) A0 c0 _   (Lib.hid (Cells.below M0.out HBwt_5.out)) N0 qt_8).mono ?_
  rintro e_t_8 wt_8 ⟨rfl, bt_8⟩
  have HBwt_8 := Lib.hid (Below.step HBwt_5.out bt_8)
  clear bt_8
  cases t_8 with
  | false =>
    replace H := let_hid H
    obtain ⟨t_9, ht_9, H⟩ := H
    obtain rfl : t_9 = true := ht_9.symm
    replace H := join_hid H
    replace H := ite_t H
    replace H := app_hid H
    replace H := join_hid H
    replace H := ite_t H
    replace H := app_hid H
    replace H := ite_t H
    obtain ⟨w_t_19, hw_t_19⟩ : ∃ x, wt_8.alloc (.cells #[] 26) = x := ⟨_, rfl⟩
    have bw_t_19 : Below wt_8.heap.size wt_8 w_t_19 := by rw [← hw_t_19]; exact (Below.refl _ _).alloc (Nat.le_refl _) _
    have Ot_19 : Hid (w_t_19.ownsRow w.heap.size 26 6 (.slice (some ⟨wt_8.heap.size, 0, none⟩) 0 0) 0 []) := Lib.hid (by rw [← hw_t_19]; exact own_empty HBwt_8.out.size)
    have HBw_t_19 := Lib.hid (Below.step HBwt_8.out bw_t_19)
    clear bw_t_19
    cases ret_hid H
    go_wp2_with fail
    go_ret3
    exact ⟨(some ⟨wt_8.heap.size, 0, none⟩), 0, rfl, Ot_19.out, HBw_t_19.out⟩
  | true =>
    replace H := let_hid H
    obtain ⟨t_9, ht_9, H⟩ := H
    obtain rfl : t_9 = false := ht_9.symm
    replace H := join_hid H
    replace H := ite_f H
    replace H := let_hid H
    obtain ⟨t_12, ht_12, H⟩ := H
    replace H := app_hid H
    replace H := join_hid H
    cases t_12 with
    | false =>
      replace H := ite_f H
      replace H := bind_hid H
      obtain ⟨t_16, qt_16, H⟩ := H
      go_wp2_with fail
      go_at_call 61
      refine (Go.Proofs.Ytgimcnpkngpmiaa.GsL2Day.C (day)  _    qt_16).mono ?_
      rintro e_t_16 wt_16 ⟨rfl, bt_16⟩
      have HBwt_16 := Lib.hid (Below.step HBwt_8.out bt_16)
      clear bt_16
      cases t_16 with
      | false =>
        replace H := let_hid H
        obtain ⟨t_17, ht_17, H⟩ := H
        obtain rfl : t_17 = true := ht_17.symm
        replace H := app_hid H
        replace H := ite_t H
        obtain ⟨w_t_19, hw_t_19⟩ : ∃ x, wt_16.alloc (.cells #[] 26) = x := ⟨_, rfl⟩
        have bw_t_19 : Below wt_16.heap.size wt_16 w_t_19 := by rw [← hw_t_19]; exact (Below.refl _ _).alloc (Nat.le_refl _) _
        have Ot_19 : Hid (w_t_19.ownsRow w.heap.size 26 6 (.slice (some ⟨wt_16.heap.size, 0, none⟩) 0 0) 0 []) := Lib.hid (by rw [← hw_t_19]; exact own_empty HBwt_16.out.size)
        have HBw_t_19 := Lib.hid (Below.step HBwt_16.out bw_t_19)
        clear bw_t_19
        cases ret_hid H
        go_wp2_with fail
        go_ret3
        exact ⟨(some ⟨wt_16.heap.size, 0, none⟩), 0, rfl, Ot_19.out, HBw_t_19.out⟩
      | true =>
        replace H := let_hid H
        obtain ⟨t_17, ht_17, H⟩ := H
        obtain rfl : t_17 = false := ht_17.symm
        replace H := app_hid H
        replace H := ite_f H
        obtain ⟨w_t_23, hw_t_23⟩ : ∃ x, wt_16.alloc (.cells #[] 26) = x := ⟨_, rfl⟩
        have bw_t_23 : Below wt_16.heap.size wt_16 w_t_23 := by rw [← hw_t_23]; exact (Below.refl _ _).alloc (Nat.le_refl _) _
        have Ot_23 : Hid (w_t_23.ownsRow w.heap.size 26 6 (.slice (some ⟨wt_16.heap.size, 0, none⟩) 0 0) 0 []) := Lib.hid (by rw [← hw_t_23]; exact own_empty HBwt_16.out.size)
        have HBw_t_23 := Lib.hid (Below.step HBwt_16.out bw_t_23)
        clear bw_t_23
        replace H := guard_hid H
        obtain ⟨hlt_25, H⟩ := H
        replace H := let_hid H
        obtain ⟨t_25, ht_25, H⟩ := H
        have hht_25 := Lib.hid ht_25
        clear ht_25
        have hst_25 := HBw_t_23.out.size
        have Ct_25 := Lib.hid ((Cells.below M0.out HBw_t_23.out))
        go_wp2_with (at_builtin; refine append_spread rfl _ _ 32 rfl w.heap.size 26 i0_26 (.agg #[.int .i64 0, .string ByteArray.empty, .int .i64 0, .int .i64 0, .int .i64 0, .string ByteArray.empty]) 6 64 Try.underlying32 hi_26 hz0_26 hz1_26 hz2_26 rfl (by decide) (some ⟨wt_16.heap.size, 0, none⟩) 0 0 _ rfl Ot_23.out A0 list.length c0 (Go.Proofs.Ytgimcnpkngpmiaa.PPostmark.flat list) rfl Q0.out Ct_25.out (fun u hu => by obtain ⟨y_, _, hy_⟩ := List.mem_flatMap.1 hu; simp only [Go.Proofs.Ytgimcnpkngpmiaa.PPostmark.Postmark.cells, List.mem_cons, List.not_mem_nil, or_false] at hy_; rcases hy_ with rfl | rfl | rfl | rfl | rfl | rfl <;> rfl) (by unfold maxLen; simp only [List.length_nil] at hlt_25; omega) (by simp only [List.length_nil] at hlt_25; omega) hst_25 ?_; intro vt_25 wt_25 ot_25 gt_25 yt_25; obtain ⟨At_25, ct_25, rfl, pt_25⟩ := own_pushS (f := Go.Proofs.Ytgimcnpkngpmiaa.PPostmark.flat) hht_25.out (by simp [Go.Proofs.Ytgimcnpkngpmiaa.PPostmark.flat]) rfl ot_25; have Pt_25 := Lib.hid pt_25; have Yt_25 := Lib.hid yt_25; have Gt_25 := Lib.hid gt_25; clear ot_25 gt_25 pt_25 yt_25; refine stop_in ?_)
        refine stop_out ?_
        clear Ct_25
        have HBwt_25 := Lib.hid (HBw_t_23.out.grown Gt_25.out hst_25 (fun q hq => (Ot_23.out.lt q hq).1))
        clear hst_25
        clear Ot_23 Yt_25 Gt_25
        replace H := idx_hid H
        obtain ⟨nt_29, yt_29, et_29, lt_29, gt_29, H⟩ := H
        subst et_29
        have nc_362 : ¬ (nt_29 < 0) := by have := of_decide_eq_false ht_12; omega
        obtain ⟨t_29_id, t_29_town, t_29_kind_, t_29_first, t_29_last, t_29_lost⟩ := yt_29
        replace H := unPostmark_hid H
        obtain ⟨qt_29, Qt_29⟩ := own_some Pt_25.out (by omega)
        subst Qt_29
        obtain ⟨ab_t_29, ao_t_29, zt_29, At_29, z_t_29, ct_29_0, ct_29_1, ct_29_2, ct_29_3, ct_29_4, ct_29_5⟩ := Go.Proofs.Ytgimcnpkngpmiaa.OPostmark.at_ (own_cells Pt_25.out) (k := nt_29) (by omega)
        obtain rfl := Option.some.inj (gt_29.out.symm.trans z_t_29)
        simp only [Option.some.injEq, Addr.mk.injEq] at At_29
        obtain ⟨rfl, rfl, _⟩ := At_29
        clear z_t_29
        simp only [Nat.zero_add] at ct_29_0 ct_29_1 ct_29_2 ct_29_3 ct_29_4 ct_29_5
        have b0t_29 : (0 : Int) ≤ (nt_29 : Int) := by omega
        have b1t_29 : (nt_29 : Int) < ((t_25.length : Nat) : Int) := by omega
        have b2t_29 : ((nt_29 : Int)).toNat = nt_29 := by omega
        obtain ⟨w_p_31, hw_p_31⟩ : ∃ x, wt_25.alloc (.cells #[.int .i64 t_29_id, .string t_29_town, .int .i64 t_29_kind_, .int .i64 t_29_first, .int .i64 t_29_last, .string t_29_lost] 26) = x := ⟨_, rfl⟩
        have bw_p_31 : Below wt_25.heap.size wt_25 w_p_31 := by rw [← hw_p_31]; exact (Below.refl _ _).alloc (Nat.le_refl _) _
        have Dp_31_t_25 := Lib.hid (apart_fresh Pt_25.out)
        have HBw_p_31 := Lib.hid (Below.step HBwt_25.out bw_p_31)
        have ct_29_0__363 := cell_below bw_p_31 ct_29_0
        have ct_29_1__364 := cell_below bw_p_31 ct_29_1
        have ct_29_2__365 := cell_below bw_p_31 ct_29_2
        have ct_29_3__366 := cell_below bw_p_31 ct_29_3
        have ct_29_4__367 := cell_below bw_p_31 ct_29_4
        have ct_29_5__368 := cell_below bw_p_31 ct_29_5
        replace Pt_25 := Lib.hid (own_below Pt_25.out bw_p_31)
        clear bw_p_31
        have kp_31_0 : w_p_31.cell? ⟨wt_25.heap.size, 0, none⟩ = some (.int .i64 t_29_id) := by rw [← hw_p_31]; exact box_new _ _ _ 0 _ rfl
        have kp_31_1 : w_p_31.cell? ⟨wt_25.heap.size, 1, none⟩ = some (.string t_29_town) := by rw [← hw_p_31]; exact box_new _ _ _ 1 _ rfl
        have kp_31_2 : w_p_31.cell? ⟨wt_25.heap.size, 2, none⟩ = some (.int .i64 t_29_kind_) := by rw [← hw_p_31]; exact box_new _ _ _ 2 _ rfl
        have kp_31_3 : w_p_31.cell? ⟨wt_25.heap.size, 3, none⟩ = some (.int .i64 t_29_first) := by rw [← hw_p_31]; exact box_new _ _ _ 3 _ rfl
        have kp_31_4 : w_p_31.cell? ⟨wt_25.heap.size, 4, none⟩ = some (.int .i64 t_29_last) := by rw [← hw_p_31]; exact box_new _ _ _ 4 _ rfl
        have kp_31_5 : w_p_31.cell? ⟨wt_25.heap.size, 5, none⟩ = some (.string t_29_lost) := by rw [← hw_p_31]; exact box_new _ _ _ 5 _ rfl
        have Op_31 : Hid (w_p_31.ownsRow w.heap.size 26 6 (.slice (some ⟨wt_25.heap.size, 0, none⟩) 1 1) 1 [.int .i64 t_29_id, .string t_29_town, .int .i64 t_29_kind_, .int .i64 t_29_first, .int .i64 t_29_last, .string t_29_lost]) := Lib.hid (by rw [← hw_p_31]; exact own_laid (n := 1) HBwt_25.out.size rfl rfl (by unfold maxLen; omega))
        go_wp2_with fail
        clear ct_29_0 ct_29_1 ct_29_2 ct_29_3 ct_29_4 ct_29_5
        have Hct_29_0__363 := Lib.hid ct_29_0__363
        replace ct_29_0__363 := cell_regrown ct_29_0__363
        have Hct_29_1__364 := Lib.hid ct_29_1__364
        replace ct_29_1__364 := cell_regrown ct_29_1__364
        have Hct_29_2__365 := Lib.hid ct_29_2__365
        replace ct_29_2__365 := cell_regrown ct_29_2__365
        have Hct_29_3__366 := Lib.hid ct_29_3__366
        replace ct_29_3__366 := cell_regrown ct_29_3__366
        have Hct_29_4__367 := Lib.hid ct_29_4__367
        replace ct_29_4__367 := cell_regrown ct_29_4__367
        have Hct_29_5__368 := Lib.hid ct_29_5__368
        replace ct_29_5__368 := cell_regrown ct_29_5__368
        have Hkp_31_0 := Lib.hid kp_31_0
        replace kp_31_0 := cell_regrown kp_31_0
        have Hkp_31_1 := Lib.hid kp_31_1
        replace kp_31_1 := cell_regrown kp_31_1
        have Hkp_31_2 := Lib.hid kp_31_2
        replace kp_31_2 := cell_regrown kp_31_2
        have Hkp_31_3 := Lib.hid kp_31_3
        replace kp_31_3 := cell_regrown kp_31_3
        have Hkp_31_4 := Lib.hid kp_31_4
        replace kp_31_4 := cell_regrown kp_31_4
        have Hkp_31_5 := Lib.hid kp_31_5
        replace kp_31_5 := cell_regrown kp_31_5
        replace H := let_hid H
        obtain ⟨t_36, ht_36, H⟩ := H
        replace H := bind_hid H
        obtain ⟨t_37, qt_37, H⟩ := H
        have nt_37 : ∀ d os, Calls Try.prog 62 #[.int .i64 0, .int .i64 t_36] (Go.Sort.grow (redrawn w_p_31 d) os) fun e w'' => e = .returned (.int .i64 t_37) ∧ ∃ p : Regrown, w'' = Go.Sort.grow (redrawn w_p_31 p.d) p.os := fun d os => Calls.regrown_of (Go.Proofs.Ytgimcnpkngpmiaa.GsL1Most.C (0) (t_36)  _    qt_37)
        replace H := let_hid H
        obtain ⟨t_41, ht_41, H⟩ := H
        replace H := bind_hid H
        obtain ⟨t_42, qt_42, H⟩ := H
        have nt_42 : ∀ d os, Calls Try.prog 62 #[.int .i64 0, .int .i64 t_41] (Go.Sort.grow (redrawn w_p_31 d) os) fun e w'' => e = .returned (.int .i64 t_42) ∧ ∃ p : Regrown, w'' = Go.Sort.grow (redrawn w_p_31 p.d) p.os := fun d os => Calls.regrown_of (Go.Proofs.Ytgimcnpkngpmiaa.GsL1Most.C (0) (t_41)  _    qt_42)
        replace H := let_hid H
        obtain ⟨t_43, ht_43, H⟩ := H
        refine wp_region_quiet_below (by kernel_rfl) (by kernel_rfl) ?_
        repeat (go_big_quiet_step (first | (go_at_call 62; with_reducible exact nt_37 _ _) | (go_at_call 62; with_reducible exact nt_42 _ _) | (go_at_call 62; exact nt_37 _ _) | (go_at_call 62; exact nt_42 _ _)))
        refine wpQuiet_nil ?_
        intro Y6 hY6
        replace hY6 := below_class hY6
        clear nt_37 nt_42
        replace ct_29_0__363 := Hct_29_0__363.out
        clear Hct_29_0__363
        replace ct_29_1__364 := Hct_29_1__364.out
        clear Hct_29_1__364
        replace ct_29_2__365 := Hct_29_2__365.out
        clear Hct_29_2__365
        replace ct_29_3__366 := Hct_29_3__366.out
        clear Hct_29_3__366
        replace ct_29_4__367 := Hct_29_4__367.out
        clear Hct_29_4__367
        replace ct_29_5__368 := Hct_29_5__368.out
        clear Hct_29_5__368
        replace kp_31_0 := Hkp_31_0.out
        clear Hkp_31_0
        replace kp_31_1 := Hkp_31_1.out
        clear Hkp_31_1
        replace kp_31_2 := Hkp_31_2.out
        clear Hkp_31_2
        replace kp_31_3 := Hkp_31_3.out
        clear Hkp_31_3
        replace kp_31_4 := Hkp_31_4.out
        clear Hkp_31_4
        replace kp_31_5 := Hkp_31_5.out
        clear Hkp_31_5
        have HBY6 := Lib.hid (Below.step HBw_p_31.out hY6)
        replace ct_29_0__363 := cell_below hY6 ct_29_0__363
        replace ct_29_1__364 := cell_below hY6 ct_29_1__364
        replace ct_29_2__365 := cell_below hY6 ct_29_2__365
        replace ct_29_3__366 := cell_below hY6 ct_29_3__366
        replace ct_29_4__367 := cell_below hY6 ct_29_4__367
        replace ct_29_5__368 := cell_below hY6 ct_29_5__368
        replace kp_31_0 := cell_below hY6 kp_31_0
        replace kp_31_1 := cell_below hY6 kp_31_1
        replace kp_31_2 := cell_below hY6 kp_31_2
        replace kp_31_3 := cell_below hY6 kp_31_3
        replace kp_31_4 := cell_below hY6 kp_31_4
        replace kp_31_5 := cell_below hY6 kp_31_5
        replace Pt_25 := Lib.hid (own_below Pt_25.out hY6)
        replace Op_31 := Lib.hid (own_below Op_31.out hY6)
        clear hY6
        replace H := bind_hid H
        obtain ⟨t_48, qt_48, H⟩ := H
        go_wp2_with fail
        go_at_call 63
        refine (Go.Proofs.Ytgimcnpkngpmiaa.GsL1Least.C (t_29_first) (day)  _    qt_48).mono ?_
        rintro e_t_48 wt_48 ⟨rfl, bt_48⟩
        have HBwt_48 := Lib.hid (Below.step HBY6.out bt_48)
        replace ct_29_0__363 := cell_below bt_48 ct_29_0__363
        replace ct_29_1__364 := cell_below bt_48 ct_29_1__364
        replace ct_29_2__365 := cell_below bt_48 ct_29_2__365
        replace ct_29_3__366 := cell_below bt_48 ct_29_3__366
        replace ct_29_4__367 := cell_below bt_48 ct_29_4__367
        replace ct_29_5__368 := cell_below bt_48 ct_29_5__368
        replace kp_31_0 := cell_below bt_48 kp_31_0
        replace kp_31_1 := cell_below bt_48 kp_31_1
        replace kp_31_2 := cell_below bt_48 kp_31_2
        replace kp_31_3 := cell_below bt_48 kp_31_3
        replace kp_31_4 := cell_below bt_48 kp_31_4
        replace kp_31_5 := cell_below bt_48 kp_31_5
        replace Pt_25 := Lib.hid (own_below Pt_25.out bt_48)
        replace Op_31 := Lib.hid (own_below Op_31.out bt_48)
        clear bt_48
        obtain ⟨wb50_50, hwb50_50⟩ : ∃ x, (wt_48).setCell ⟨wt_25.heap.size, 3, none⟩ (.int .i64 t_48) = x := ⟨_, rfl⟩
        have z0b50_50 := Op_31.out.frozenAt 3
        have Sb50_50 := Lib.hid (own_stores [(3, .int .i64 t_48)] Op_31.out)
        have Pb50_50 : Hid (wb50_50.ownsRow w.heap.size 26 6 (.slice (some ⟨wt_25.heap.size, 0, none⟩) 1 1) 1 [.int .i64 t_29_id, .string t_29_town, .int .i64 t_29_kind_, .int .i64 t_48, .int .i64 t_29_last, .string t_29_lost]) := Lib.hid (by rw [← hwb50_50]; exact Sb50_50.out.1)
        have Gb50_50 : Hid (wt_48.grownBy wb50_50 (Value.slice (some ⟨wt_25.heap.size, 0, none⟩) 1 1).ownBlock) := Lib.hid (by rw [← hwb50_50]; exact Sb50_50.out.2)
        have HBwb50_50 := Lib.hid (HBwt_48.out.grown Gb50_50.out HBwt_48.out.size (fun q hq => (Op_31.out.lt q hq).1))
        clear Sb50_50
        have ct_29_0__369 := cell_other ct_29_0__363 Gb50_50.out Dp_31_t_25.out
        have ct_29_1__370 := cell_other ct_29_1__364 Gb50_50.out Dp_31_t_25.out
        have ct_29_2__371 := cell_other ct_29_2__365 Gb50_50.out Dp_31_t_25.out
        have ct_29_3__372 := cell_other ct_29_3__366 Gb50_50.out Dp_31_t_25.out
        have ct_29_4__373 := cell_other ct_29_4__367 Gb50_50.out Dp_31_t_25.out
        have ct_29_5__374 := cell_other ct_29_5__368 Gb50_50.out Dp_31_t_25.out
        replace Pt_25 := Lib.hid (own_other Pt_25.out Gb50_50.out Dp_31_t_25.out)
        clear Op_31 Gb50_50
        have kp_31_0__375 : wb50_50.cell? ⟨wt_25.heap.size, 0, none⟩ = some (.int .i64 t_29_id) := Pb50_50.out.cells rfl 0 _ rfl
        have kp_31_1__376 : wb50_50.cell? ⟨wt_25.heap.size, 1, none⟩ = some (.string t_29_town) := Pb50_50.out.cells rfl 1 _ rfl
        have kp_31_2__377 : wb50_50.cell? ⟨wt_25.heap.size, 2, none⟩ = some (.int .i64 t_29_kind_) := Pb50_50.out.cells rfl 2 _ rfl
        have kp_31_3__378 : wb50_50.cell? ⟨wt_25.heap.size, 3, none⟩ = some (.int .i64 t_48) := Pb50_50.out.cells rfl 3 _ rfl
        have kp_31_4__379 : wb50_50.cell? ⟨wt_25.heap.size, 4, none⟩ = some (.int .i64 t_29_last) := Pb50_50.out.cells rfl 4 _ rfl
        have kp_31_5__380 : wb50_50.cell? ⟨wt_25.heap.size, 5, none⟩ = some (.string t_29_lost) := Pb50_50.out.cells rfl 5 _ rfl
        replace H := bind_hid H
        obtain ⟨t_54, qt_54, H⟩ := H
        go_wp2_with fail
        clear z0b50_50 ct_29_0__363 ct_29_1__364 ct_29_2__365 ct_29_3__366 ct_29_4__367 ct_29_5__368 kp_31_0 kp_31_1 kp_31_2 kp_31_3 kp_31_4 kp_31_5
        go_at_call 62
        refine (Go.Proofs.Ytgimcnpkngpmiaa.GsL1Most.C (t_29_last) (day)  _    qt_54).mono ?_
        rintro e_t_54 wt_54 ⟨rfl, bt_54⟩
        have HBwt_54 := Lib.hid (Below.step HBwb50_50.out bt_54)
        replace ct_29_0__369 := cell_below bt_54 ct_29_0__369
        replace ct_29_1__370 := cell_below bt_54 ct_29_1__370
        replace ct_29_2__371 := cell_below bt_54 ct_29_2__371
        replace ct_29_3__372 := cell_below bt_54 ct_29_3__372
        replace ct_29_4__373 := cell_below bt_54 ct_29_4__373
        replace ct_29_5__374 := cell_below bt_54 ct_29_5__374
        replace kp_31_0__375 := cell_below bt_54 kp_31_0__375
        replace kp_31_1__376 := cell_below bt_54 kp_31_1__376
        replace kp_31_2__377 := cell_below bt_54 kp_31_2__377
        replace kp_31_3__378 := cell_below bt_54 kp_31_3__378
        replace kp_31_4__379 := cell_below bt_54 kp_31_4__379
        replace kp_31_5__380 := cell_below bt_54 kp_31_5__380
        replace Pt_25 := Lib.hid (own_below Pt_25.out bt_54)
        replace Pb50_50 := Lib.hid (own_below Pb50_50.out bt_54)
        clear bt_54
        obtain ⟨wb56_56, hwb56_56⟩ : ∃ x, (wt_54).setCell ⟨wt_25.heap.size, 4, none⟩ (.int .i64 t_54) = x := ⟨_, rfl⟩
        have z0b56_56 := Pb50_50.out.frozenAt 4
        have Sb56_56 := Lib.hid (own_stores [(4, .int .i64 t_54)] Pb50_50.out)
        have Pb56_56 : Hid (wb56_56.ownsRow w.heap.size 26 6 (.slice (some ⟨wt_25.heap.size, 0, none⟩) 1 1) 1 [.int .i64 t_29_id, .string t_29_town, .int .i64 t_29_kind_, .int .i64 t_48, .int .i64 t_54, .string t_29_lost]) := Lib.hid (by rw [← hwb56_56]; exact Sb56_56.out.1)
        have Gb56_56 : Hid (wt_54.grownBy wb56_56 (Value.slice (some ⟨wt_25.heap.size, 0, none⟩) 1 1).ownBlock) := Lib.hid (by rw [← hwb56_56]; exact Sb56_56.out.2)
        have HBwb56_56 := Lib.hid (HBwt_54.out.grown Gb56_56.out HBwt_54.out.size (fun q hq => (Pb50_50.out.lt q hq).1))
        clear Sb56_56
        have ct_29_0__381 := cell_other ct_29_0__369 Gb56_56.out Dp_31_t_25.out
        have ct_29_1__382 := cell_other ct_29_1__370 Gb56_56.out Dp_31_t_25.out
        have ct_29_2__383 := cell_other ct_29_2__371 Gb56_56.out Dp_31_t_25.out
        have ct_29_3__384 := cell_other ct_29_3__372 Gb56_56.out Dp_31_t_25.out
        have ct_29_4__385 := cell_other ct_29_4__373 Gb56_56.out Dp_31_t_25.out
        have ct_29_5__386 := cell_other ct_29_5__374 Gb56_56.out Dp_31_t_25.out
        replace Pt_25 := Lib.hid (own_other Pt_25.out Gb56_56.out Dp_31_t_25.out)
        clear Pb50_50 Gb56_56
        have kp_31_0__387 : wb56_56.cell? ⟨wt_25.heap.size, 0, none⟩ = some (.int .i64 t_29_id) := Pb56_56.out.cells rfl 0 _ rfl
        have kp_31_1__388 : wb56_56.cell? ⟨wt_25.heap.size, 1, none⟩ = some (.string t_29_town) := Pb56_56.out.cells rfl 1 _ rfl
        have kp_31_2__389 : wb56_56.cell? ⟨wt_25.heap.size, 2, none⟩ = some (.int .i64 t_29_kind_) := Pb56_56.out.cells rfl 2 _ rfl
        have kp_31_3__390 : wb56_56.cell? ⟨wt_25.heap.size, 3, none⟩ = some (.int .i64 t_48) := Pb56_56.out.cells rfl 3 _ rfl
        have kp_31_4__391 : wb56_56.cell? ⟨wt_25.heap.size, 4, none⟩ = some (.int .i64 t_54) := Pb56_56.out.cells rfl 4 _ rfl
        have kp_31_5__392 : wb56_56.cell? ⟨wt_25.heap.size, 5, none⟩ = some (.string t_29_lost) := Pb56_56.out.cells rfl 5 _ rfl
        replace H := idx_hid H
        obtain ⟨nt_60, yt_60, et_60, lt_60, gt_60, H⟩ := H
        obtain rfl : nt_29 = nt_60 := by omega
        clear et_60
        obtain rfl := Option.some.inj (gt_29.out.symm.trans gt_60.out)
        clear gt_60 lt_60
        replace H := unPostmark_hid H
        replace H := let_hid H
        obtain ⟨l61_61, hl61_61, H⟩ := H
        try simp only [Int.toNat_natCast] at hl61_61
        obtain ⟨wl61_61, hwl61_61⟩ : ∃ x, ((((((wb56_56).setCell ⟨qt_29, nt_29 * 6, none⟩ (.int .i64 t_29_id)).setCell ⟨qt_29, nt_29 * 6 + 1, none⟩ (.string t_29_town)).setCell ⟨qt_29, nt_29 * 6 + 2, none⟩ (.int .i64 t_29_kind_)).setCell ⟨qt_29, nt_29 * 6 + 3, none⟩ (.int .i64 t_48)).setCell ⟨qt_29, nt_29 * 6 + 4, none⟩ (.int .i64 t_54)).setCell ⟨qt_29, nt_29 * 6 + 5, none⟩ (.string t_29_lost) = x := ⟨_, rfl⟩
        have z0l61_61 := Pt_25.out.frozenAt (nt_29 * 6)
        have z1l61_61 := Pt_25.out.frozenAt (nt_29 * 6 + 1)
        have z2l61_61 := Pt_25.out.frozenAt (nt_29 * 6 + 2)
        have z3l61_61 := Pt_25.out.frozenAt (nt_29 * 6 + 3)
        have z4l61_61 := Pt_25.out.frozenAt (nt_29 * 6 + 4)
        have z5l61_61 := Pt_25.out.frozenAt (nt_29 * 6 + 5)
        have Sl61_61 := Lib.hid (own_stores [(nt_29 * 6, .int .i64 t_29_id), (nt_29 * 6 + 1, .string t_29_town), (nt_29 * 6 + 2, .int .i64 t_29_kind_), (nt_29 * 6 + 3, .int .i64 t_48), (nt_29 * 6 + 4, .int .i64 t_54), (nt_29 * 6 + 5, .string t_29_lost)] Pt_25.out)
        have nl61_61 : Hid (l61_61.length = t_25.length) := Lib.hid (by rw [← hl61_61, List.length_set])
        have Pl61_61 : Hid (wl61_61.ownsRow w.heap.size 26 6 (.slice (some ⟨qt_29, 0, none⟩) t_25.length ct_25) t_25.length (Go.Proofs.Ytgimcnpkngpmiaa.PPostmark.flat l61_61)) := Lib.hid (by have es_ := set_self gt_29.out; have e0_ := flat_set Go.Proofs.Ytgimcnpkngpmiaa.PPostmark.Postmark.cells 6 (fun _ => rfl) t_25 (nt_29) 0 (Go.Proofs.Ytgimcnpkngpmiaa.PPostmark.Postmark.mk t_29_id t_29_town t_29_kind_ t_29_first t_29_last t_29_lost) (Go.Proofs.Ytgimcnpkngpmiaa.PPostmark.Postmark.mk t_29_id t_29_town t_29_kind_ t_29_first t_29_last t_29_lost) (.int .i64 t_29_id) lt_29 (by decide) rfl; have e1_ := flat_set Go.Proofs.Ytgimcnpkngpmiaa.PPostmark.Postmark.cells 6 (fun _ => rfl) t_25 (nt_29) 1 (Go.Proofs.Ytgimcnpkngpmiaa.PPostmark.Postmark.mk t_29_id t_29_town t_29_kind_ t_29_first t_29_last t_29_lost) (Go.Proofs.Ytgimcnpkngpmiaa.PPostmark.Postmark.mk t_29_id t_29_town t_29_kind_ t_29_first t_29_last t_29_lost) (.string t_29_town) lt_29 (by decide) rfl; have e2_ := flat_set Go.Proofs.Ytgimcnpkngpmiaa.PPostmark.Postmark.cells 6 (fun _ => rfl) t_25 (nt_29) 2 (Go.Proofs.Ytgimcnpkngpmiaa.PPostmark.Postmark.mk t_29_id t_29_town t_29_kind_ t_29_first t_29_last t_29_lost) (Go.Proofs.Ytgimcnpkngpmiaa.PPostmark.Postmark.mk t_29_id t_29_town t_29_kind_ t_29_first t_29_last t_29_lost) (.int .i64 t_29_kind_) lt_29 (by decide) rfl; have e3_ := flat_set Go.Proofs.Ytgimcnpkngpmiaa.PPostmark.Postmark.cells 6 (fun _ => rfl) t_25 (nt_29) 3 (Go.Proofs.Ytgimcnpkngpmiaa.PPostmark.Postmark.mk t_29_id t_29_town t_29_kind_ t_29_first t_29_last t_29_lost) (Go.Proofs.Ytgimcnpkngpmiaa.PPostmark.Postmark.mk t_29_id t_29_town t_29_kind_ t_48 t_29_last t_29_lost) (.int .i64 t_48) lt_29 (by decide) rfl; have e4_ := flat_set Go.Proofs.Ytgimcnpkngpmiaa.PPostmark.Postmark.cells 6 (fun _ => rfl) t_25 (nt_29) 4 (Go.Proofs.Ytgimcnpkngpmiaa.PPostmark.Postmark.mk t_29_id t_29_town t_29_kind_ t_48 t_29_last t_29_lost) (Go.Proofs.Ytgimcnpkngpmiaa.PPostmark.Postmark.mk t_29_id t_29_town t_29_kind_ t_48 t_54 t_29_lost) (.int .i64 t_54) lt_29 (by decide) rfl; have e5_ := flat_set Go.Proofs.Ytgimcnpkngpmiaa.PPostmark.Postmark.cells 6 (fun _ => rfl) t_25 (nt_29) 5 (Go.Proofs.Ytgimcnpkngpmiaa.PPostmark.Postmark.mk t_29_id t_29_town t_29_kind_ t_48 t_54 t_29_lost) (Go.Proofs.Ytgimcnpkngpmiaa.PPostmark.Postmark.mk t_29_id t_29_town t_29_kind_ t_48 t_54 t_29_lost) (.string t_29_lost) lt_29 (by decide) rfl; rw [es_] at e0_; have e_ : ([(nt_29 * 6, .int .i64 t_29_id), (nt_29 * 6 + 1, .string t_29_town), (nt_29 * 6 + 2, .int .i64 t_29_kind_), (nt_29 * 6 + 3, .int .i64 t_48), (nt_29 * 6 + 4, .int .i64 t_54), (nt_29 * 6 + 5, .string t_29_lost)] : List (Nat × Value)).foldl (fun xs p => xs.set p.1 p.2) (Go.Proofs.Ytgimcnpkngpmiaa.PPostmark.flat t_25) = (Go.Proofs.Ytgimcnpkngpmiaa.PPostmark.flat l61_61) := (by rw [← hl61_61]; show _ = List.flatMap Go.Proofs.Ytgimcnpkngpmiaa.PPostmark.Postmark.cells _; first | (rw [← e5_, ← e4_, ← e3_, ← e2_, ← e1_, ← e0_]; first | done | rfl) | (rw [← e5_, ← e4_, ← e3_, ← e2_, ← e1_, es_, ← e0_]; first | done | rfl)); rw [← hwl61_61, ← e_]; exact Sl61_61.out.1)
        have Gl61_61 : Hid (wb56_56.grownBy wl61_61 (Value.slice (some ⟨qt_29, 0, none⟩) t_25.length ct_25).ownBlock) := Lib.hid (by rw [← hwl61_61]; exact Sl61_61.out.2)
        have HBwl61_61 := Lib.hid (HBwb56_56.out.grown Gl61_61.out HBwb56_56.out.size (fun q hq => (Pt_25.out.lt q hq).1))
        have hhl61_61 := Lib.hid hl61_61
        clear hl61_61 Sl61_61
        have kp_31_0__393 := cell_other kp_31_0__387 Gl61_61.out (Apart.symm Dp_31_t_25.out)
        have kp_31_1__394 := cell_other kp_31_1__388 Gl61_61.out (Apart.symm Dp_31_t_25.out)
        have kp_31_2__395 := cell_other kp_31_2__389 Gl61_61.out (Apart.symm Dp_31_t_25.out)
        have kp_31_3__396 := cell_other kp_31_3__390 Gl61_61.out (Apart.symm Dp_31_t_25.out)
        have kp_31_4__397 := cell_other kp_31_4__391 Gl61_61.out (Apart.symm Dp_31_t_25.out)
        have kp_31_5__398 := cell_other kp_31_5__392 Gl61_61.out (Apart.symm Dp_31_t_25.out)
        replace Pb56_56 := Lib.hid (own_other Pb56_56.out Gl61_61.out (Apart.symm Dp_31_t_25.out))
        clear Pt_25 Gl61_61
        cases ret_hid H
        go_wp2_with fail
        go_ret3
        have hr_0 := nl61_61.out
        replace Pl61_61 := Lib.hid (own_len hr_0 Pl61_61.out)
        exact ⟨(some ⟨qt_29, 0, none⟩), ct_25, (by first | (rw [hr_0]; done) | (rw [hr_0]; rfl)), Pl61_61.out, HBwl61_61.out⟩
    | true =>
      replace H := ite_t H
      replace H := app_hid H
      replace H := ite_t H
      obtain ⟨w_t_19, hw_t_19⟩ : ∃ x, wt_8.alloc (.cells #[] 26) = x := ⟨_, rfl⟩
      have bw_t_19 : Below wt_8.heap.size wt_8 w_t_19 := by rw [← hw_t_19]; exact (Below.refl _ _).alloc (Nat.le_refl _) _
      have Ot_19 : Hid (w_t_19.ownsRow w.heap.size 26 6 (.slice (some ⟨wt_8.heap.size, 0, none⟩) 0 0) 0 []) := Lib.hid (by rw [← hw_t_19]; exact own_empty HBwt_8.out.size)
      have HBw_t_19 := Lib.hid (Below.step HBwt_8.out bw_t_19)
      clear bw_t_19
      cases ret_hid H
      go_wp2_with fail
      go_ret3
      exact ⟨(some ⟨wt_8.heap.size, 0, none⟩), 0, rfl, Ot_19.out, HBw_t_19.out⟩
end Go.Proofs.Ytgimcnpkngpmiaa.GsExtendUse

/- Chapter 11: postmarks: the plain functions of the program and of the reference agree, and the laws answer true. (Q11Extend) No condition but those of each theorem. -/
namespace Go.Proofs.Ytgimcnpkngpmiaa.Q11Extend
set_option linter.unusedVariables false
set_option linter.unusedSimpArgs false
open Go.RowKit
open Go.Proofs.Ytgimcnpkngpmiaa.GoP Go.Proofs.Ytgimcnpkngpmiaa.PlainStamp Go.Proofs.Ytgimcnpkngpmiaa.QBase Go.Proofs.Ytgimcnpkngpmiaa.Q11Find Go.Proofs.Ytgimcnpkngpmiaa.QCount Go.Proofs.Ytgimcnpkngpmiaa.QOrd Go.Proofs.Ytgimcnpkngpmiaa.Q11List Go.Proofs.Ytgimcnpkngpmiaa.Q11Mark Go.Proofs.Ytgimcnpkngpmiaa.QUp Go.Proofs.Ytgimcnpkngpmiaa.QLoop Go.Proofs.Ytgimcnpkngpmiaa.PPostmark

theorem most_eq (a b : Int) : GsL1Most.P a b = some (max a b) := by
  simp only [GsL1Most.P, letK, iteK_if]
  by_cases h : b < a
  · rw [if_pos (by simpa using h)]; congr 1; omega
  · rw [if_neg (by simpa using h)]; congr 1; omega
theorem least_eq (a b : Int) : GsL1Least.P a b = some (min a b) := by
  simp only [GsL1Least.P, letK, iteK_if]
  by_cases h : a < b
  · rw [if_pos (by simpa using h)]; congr 1; omega
  · rw [if_neg (by simpa using h)]; congr 1; omega
theorem clone_eq {l : List Postmark} (h : l.length ≤ 1000000) : GxSlicesCloneLoopExampleG01062ImplPostmarkLoopExampleG01062ImplPostmark.P l = some l := by
  simp only [GxSlicesCloneLoopExampleG01062ImplPostmarkLoopExampleG01062ImplPostmark.P, Go.Proofs.Ytgimcnpkngpmiaa.GoK.nilK, iteK_if, letK]
  rw [if_neg (by simp), guardK_pos (by simp; omega)]; simp
def extR (l : List Postmark) (id day : Int) : List Postmark × Int × Bool := if okPms l = true then (match fnd l id with | none => ([], 0, false) | some (i, x) => if inB day 0 4000 = true then (l.set i ⟨x.id, x.town, x.kind_, min x.first day, max x.last day, x.lost⟩, max 0 (x.first - day) + max 0 (day - x.last), true) else ([], 0, false)) else ([], 0, false)
theorem ext_impl (l : List Postmark) (hf : ∀ s ∈ l, s.fits) (id day : Int) : GiExtendUse.P l id day = some (extR l id day) := by
  simp only [GiExtendUse.P, indexOf_eq l hf, isDay_eq, Option.bind_some, letK, joinK, appK, iteK_if, extR]
  cases hc : okPms l with
  | false => simp
  | true =>
    have h12 : l.length ≤ 12 := upL_len hc
    simp only [if_true]
    cases ha : fnd l id with
    | none => simp [(fnd_none ha).1]
    | some p =>
      obtain ⟨i, x⟩ := p
      obtain ⟨e1, hx, _, hil⟩ := fnd_some ha
      have hnx : ¬ ((i : Int) < 0) := by omega
      have hok := okPm_of (pms_mem hc (List.mem_of_getElem? hx))
      cases hd : inB day 0 4000 with
      | false => simp [e1, hnx]
      | true =>
        have hd' := inB_of hd
        have hw1 := wrap_in (x := max x.last day - min x.first day) (by omega) (by omega)
        have hw2 := wrap_in (x := x.last - x.first) (by omega) (by omega)
        have hw3 := wrap_in (x := max x.last day - min x.first day - (x.last - x.first)) (by omega) (by omega)
        simp only [e1, decide_eq_false hnx, Bool.not_true, Bool.false_eq_true, if_false, if_true, idx_nat, hx, Option.bind_some, unPostmark, clone_eq (show l.length ≤ 1000000 by omega), hw1, hw2, hw3, Int.toNat_natCast]
        congr 3; omega
theorem ext_spec (fuel : Nat) (hfu : 100 ≤ fuel) (l : List Postmark) (hf : ∀ s ∈ l, s.fits) (hl : l.length ≤ 9223372036854775807) (id day : Int) : GsExtendUse.P fuel l id day = some (extR l id day) := by
  simp only [GsExtendUse.P, l11Good_eq fuel hfu l hf hl, l11Find_eq, l2Day_eq, Option.bind_some, letK, joinK, appK, iteK_if, extR, List.nil_append]
  cases hc : okPms l with
  | false => simp
  | true =>
    have h12 : l.length ≤ 12 := upL_len hc
    cases ha : fnd l id with
    | none => simp [(fnd_none ha).1]
    | some p =>
      obtain ⟨i, x⟩ := p
      obtain ⟨e1, hx, _, hil⟩ := fnd_some ha
      have hnx : ¬ ((i : Int) < 0) := by omega
      have hok := okPm_of (pms_mem hc (List.mem_of_getElem? hx))
      cases hd : inB day 0 4000 with
      | false => simp [e1, hnx]
      | true =>
        have hd' := inB_of hd
        have hw1 := wrap_in (x := x.first - day) (by omega) (by omega)
        have hw2 := wrap_in (x := day - x.last) (by omega) (by omega)
        have hw3 := wrap_in (x := max 0 (x.first - day) + max 0 (day - x.last)) (by omega) (by omega)
        simp only [e1, decide_eq_false hnx, Bool.not_true, Bool.false_eq_true, if_false, if_true]
        rw [guardK_pos (by simp; omega)]
        simp only [idx_nat, hx, Option.bind_some, unPostmark, hw1, hw2, most_eq, least_eq, hw3, Int.toNat_natCast]
theorem ext_len (l : List Postmark) (id day : Int) : (extR l id day).1.length ≤ 12 := by
  unfold extR
  split
  · rename_i hc
    have h12 : l.length ≤ 12 := upL_len hc
    split
    · simp
    · split
      · rw [List.length_set]; exact h12
      · simp
  · simp
end Go.Proofs.Ytgimcnpkngpmiaa.Q11Extend

/- The laws' helper that marks a slice of Postmark as a plain function. No condition. -/
namespace Go.Proofs.Ytgimcnpkngpmiaa.QHPostmark
set_option linter.unusedVariables false
set_option linter.unusedSimpArgs false
open Go.RowKit
open Go.Proofs.Ytgimcnpkngpmiaa.GoP Go.Proofs.Ytgimcnpkngpmiaa.QBase Go.Proofs.Ytgimcnpkngpmiaa.QLoop Go.Proofs.Ytgimcnpkngpmiaa.PPostmark 
theorem set_at {α : Type} {l : List α} {k : Nat} (x : α) (h : k < l.length) : idx (l.set k x) (k : Int) = some x := by rw [idx_nat, List.getElem?_set_self h]
theorem mark_ok (k : Int) (h : 1 ≤ k ∧ k ≤ 1000000000) : ∃ t, GlMarkText.P k = some t := by
  unfold GlMarkText.P; rw [if_pos h]; exact ⟨_, rfl⟩
theorem markF (l : List Postmark) (k0 : Int) (hk0 : 1 ≤ k0) (hk1 : k0 ≤ 100000000) (hl : l.length ≤ 1048576) : ∃ v l', GlMarkPostmarkS.P l k0 = some (v, l') ∧ v = k0 + 6 * (l.length : Int) := by
  obtain ⟨⟨v, l'⟩, h, hv⟩ : ∃ r : Int × List Postmark, GlMarkPostmarkS.P l k0 = some r ∧ r.1 = k0 + 6 * (l.length : Int) := by
    simp only [GlMarkPostmarkS.P]
    refine cnt_ex (n := l.length) (Q := fun r : Int × List Postmark => r.1 = k0 + 6 * (l.length : Int)) (fun k (s : List Postmark × Int) => s.1.length = l.length ∧ s.2 = 6 * (k : Int) + k0) ?_ ?_ l.length 0 (l, k0) (by omega) ⟨rfl, by simp⟩
    · rintro k ⟨a, b⟩ nx hk ⟨h1, h2⟩ hn
      dsimp only at h1 h2
      obtain ⟨x, hx, hi⟩ := at_lt (l := a) (k := k) (by omega)
      have ha : k < a.length := by omega
      have w1 : IntKind.i64.wrap (b + 1) = b + 1 := wrap_in (by omega) (by omega)
      have w2 : IntKind.i64.wrap (b + 1 + 1) = b + 1 + 1 := wrap_in (by omega) (by omega)
      have w3 : IntKind.i64.wrap (b + 1 + 1 + 1) = b + 1 + 1 + 1 := wrap_in (by omega) (by omega)
      have w4 : IntKind.i64.wrap (b + 1 + 1 + 1 + 1) = b + 1 + 1 + 1 + 1 := wrap_in (by omega) (by omega)
      have w5 : IntKind.i64.wrap (b + 1 + 1 + 1 + 1 + 1) = b + 1 + 1 + 1 + 1 + 1 := wrap_in (by omega) (by omega)
      have w6 : IntKind.i64.wrap (b + 1 + 1 + 1 + 1 + 1 + 1) = b + 1 + 1 + 1 + 1 + 1 + 1 := wrap_in (by omega) (by omega)
      obtain ⟨t1, m1⟩ := mark_ok (b + 1) (by omega)
      obtain ⟨t5, m5⟩ := mark_ok (b + 1 + 1 + 1 + 1 + 1) (by omega)
      simp (disch := simp [ha]) only [GlMarkPostmarkS.l0, unp2, hi, set_at, Option.bind_some, unPostmark, letK, appK, w1, w2, w3, w4, w5, w6, m1, m5]
      exact hn _ ⟨by simpa using h1, by dsimp only; omega⟩
    · rintro ⟨a, b⟩ ⟨h1, h2⟩
      exact ⟨_, rfl, by dsimp only at h2 ⊢; omega⟩
  exact ⟨v, l', h, hv⟩
theorem markS (l : List Postmark) (hl : l.length ≤ 1048576) : ∃ v l', GlMarkPostmarkS.P l 1 = some (v, l') ∧ 0 ≤ v := by
  obtain ⟨v, l', h, hv⟩ := markF l 1 (by omega) (by omega) hl
  exact ⟨v, l', h, by omega⟩
end Go.Proofs.Ytgimcnpkngpmiaa.QHPostmark

/- The laws' mark on a slice of Postmark, then held, answer the same number. No condition but those of each theorem. -/
namespace Go.Proofs.Ytgimcnpkngpmiaa.QHeldPostmark
set_option linter.unusedVariables false
set_option linter.unusedSimpArgs false
open Go.RowKit
open Go.Proofs.Ytgimcnpkngpmiaa.GoP Go.Proofs.Ytgimcnpkngpmiaa.QBase Go.Proofs.Ytgimcnpkngpmiaa.QLoop Go.Proofs.Ytgimcnpkngpmiaa.PPostmark
def qui (i : Nat) : Postmark := ⟨6 * (i : Int) + 1, Go.Proofs.Ytgimcnpkngpmiaa.MarkStr.mt (6 * (i : Int) + 2).toNat, 6 * (i : Int) + 3, 6 * (i : Int) + 4, 6 * (i : Int) + 5, Go.Proofs.Ytgimcnpkngpmiaa.MarkStr.mt (6 * (i : Int) + 6).toNat⟩
theorem setAt {α : Type} {l : List α} {k : Nat} (x : α) (h : k < l.length) : idx (l.set k x) (k : Int) = some x := by rw [idx_nat, List.getElem?_set_self h]
theorem mark_is {k : Int} (h : 1 ≤ k ∧ k ≤ 1000000000) : GlMarkText.P k = some (Go.Proofs.Ytgimcnpkngpmiaa.MarkStr.mt k.toNat) := by unfold GlMarkText.P; rw [if_pos h]
theorem markHeld (l : List Postmark) (hl : l.length ≤ 1048576) : ∃ v l', GlMarkPostmarkS.P l 1 = some (v, l') ∧ GlHeldPostmarkS.P l' 1 = some v ∧ 0 ≤ v := by
  obtain ⟨⟨v, l'⟩, h, hv, hlen, hat⟩ : ∃ r : Int × List Postmark, GlMarkPostmarkS.P l 1 = some r ∧ r.1 = 6 * (l.length : Int) + 1 ∧ r.2.length = l.length ∧ ∀ i : Nat, i < l.length → r.2[i]? = some (qui i) := by
    simp only [GlMarkPostmarkS.P]
    refine cnt_ex (n := l.length) (Q := fun r : Int × List Postmark => r.1 = 6 * (l.length : Int) + 1 ∧ r.2.length = l.length ∧ ∀ i : Nat, i < l.length → r.2[i]? = some (qui i)) (fun k (s : List Postmark × Int) => s.1.length = l.length ∧ s.2 = 6 * (k : Int) + 1 ∧ ∀ i : Nat, i < k → s.1[i]? = some (qui i)) ?_ ?_ l.length 0 (l, 1) (by omega) ⟨rfl, by simp, fun i hi => by omega⟩
    · rintro k ⟨a, b⟩ nx hk ⟨h1, h2, h3⟩ hn
      dsimp only at h1 h2 h3
      obtain ⟨x, hx, hi⟩ := at_lt (l := a) (k := k) (by omega)
      have ha : k < a.length := by omega
      have w1 : IntKind.i64.wrap (b + 1) = b + 1 := wrap_in (by omega) (by omega)
      have w2 : IntKind.i64.wrap (b + 1 + 1) = b + 1 + 1 := wrap_in (by omega) (by omega)
      have w3 : IntKind.i64.wrap (b + 1 + 1 + 1) = b + 1 + 1 + 1 := wrap_in (by omega) (by omega)
      have w4 : IntKind.i64.wrap (b + 1 + 1 + 1 + 1) = b + 1 + 1 + 1 + 1 := wrap_in (by omega) (by omega)
      have w5 : IntKind.i64.wrap (b + 1 + 1 + 1 + 1 + 1) = b + 1 + 1 + 1 + 1 + 1 := wrap_in (by omega) (by omega)
      have w6 : IntKind.i64.wrap (b + 1 + 1 + 1 + 1 + 1 + 1) = b + 1 + 1 + 1 + 1 + 1 + 1 := wrap_in (by omega) (by omega)
      have m1 := mark_is (k := b + 1) (by omega)
      have m5 := mark_is (k := b + 1 + 1 + 1 + 1 + 1) (by omega)
      simp (disch := simp [ha]) only [GlMarkPostmarkS.l0, unp2, hi, setAt, Option.bind_some, unPostmark, letK, appK, w1, w2, w3, w4, w5, w6, m1, m5, List.set_set]
      refine hn _ ⟨by simpa using h1, by dsimp only; omega, fun i hi2 => ?_⟩
      dsimp only
      by_cases he : i = k
      · subst he
        rw [List.getElem?_set_self ha, h2]
        unfold qui
        have p1 : 6 * (i : Int) + 1 + 1 = 6 * (i : Int) + 2 := by omega
        have p2 : 6 * (i : Int) + 1 + 1 + 1 = 6 * (i : Int) + 3 := by omega
        have p3 : 6 * (i : Int) + 1 + 1 + 1 + 1 = 6 * (i : Int) + 4 := by omega
        have p4 : 6 * (i : Int) + 1 + 1 + 1 + 1 + 1 = 6 * (i : Int) + 5 := by omega
        have p5 : 6 * (i : Int) + 1 + 1 + 1 + 1 + 1 + 1 = 6 * (i : Int) + 6 := by omega
        rw [p5, p4, p3, p2, p1]
      · rw [List.getElem?_set_ne (by omega)]
        exact h3 i (by omega)
    · rintro ⟨a, b⟩ ⟨h1, h2, h3⟩
      dsimp only at h1 h2 h3
      exact ⟨_, rfl, h2, h1, h3⟩
  dsimp only at hv hlen hat
  refine ⟨v, l', h, ?_, by omega⟩
  simp only [GlHeldPostmarkS.P]
  refine cnt_is _ (fun k s => s = 6 * (k : Int) + 1) ?_ ?_ 1 rfl
  · rintro k s nx hk rfl hn
    have hi : idx l' (k : Int) = some (qui k) := by rw [idx_nat, hat k (by omega)]
    have w2 : IntKind.i64.wrap (6 * (k : Int) + 2) = 6 * (k : Int) + 2 := wrap_in (by omega) (by omega)
    have w3 : IntKind.i64.wrap (6 * (k : Int) + 3) = 6 * (k : Int) + 3 := wrap_in (by omega) (by omega)
    have w4 : IntKind.i64.wrap (6 * (k : Int) + 4) = 6 * (k : Int) + 4 := wrap_in (by omega) (by omega)
    have w5 : IntKind.i64.wrap (6 * (k : Int) + 5) = 6 * (k : Int) + 5 := wrap_in (by omega) (by omega)
    have w6 : IntKind.i64.wrap (6 * (k : Int) + 6) = 6 * (k : Int) + 6 := wrap_in (by omega) (by omega)
    have w7 : IntKind.i64.wrap (6 * (k : Int) + 7) = 6 * (k : Int) + 7 := wrap_in (by omega) (by omega)
    have p1 : 6 * (k : Int) + 1 + 1 = 6 * (k : Int) + 2 := by omega
    have p2 : 6 * (k : Int) + 2 + 1 = 6 * (k : Int) + 3 := by omega
    have p3 : 6 * (k : Int) + 3 + 1 = 6 * (k : Int) + 4 := by omega
    have p4 : 6 * (k : Int) + 4 + 1 = 6 * (k : Int) + 5 := by omega
    have p5 : 6 * (k : Int) + 5 + 1 = 6 * (k : Int) + 6 := by omega
    have p6 : 6 * (k : Int) + 6 + 1 = 6 * (k : Int) + 7 := by omega
    have m1 := mark_is (k := 6 * (k : Int) + 2) (by omega)
    have m5 := mark_is (k := 6 * (k : Int) + 6) (by omega)
    simp only [GlHeldPostmarkS.l0, letK, hi, Option.bind_some, unPostmark, qui, p1, p2, p3, p4, p5, p6, w2, w3, w4, w5, w6, w7, m1, m5, iteK_if, bne_self_eq_false, beq_self_eq_true, Bool.not_true, Bool.false_eq_true, if_false, appK]
    exact hn _ (by omega)
  · intro s hI
    simp only [GlHeldPostmarkS.e0, letK]
    rw [hI, hlen, hv]
end Go.Proofs.Ytgimcnpkngpmiaa.QHeldPostmark

/- Rows of records in one's own memory: clear of a tail; a part taken out (append(s[:i], s[j:]...), clear of what is left behind). No condition. -/
namespace Go.Proofs.Ytgimcnpkngpmiaa.GoD
set_option linter.unusedVariables false
set_option linter.unusedSimpArgs false
open Go.RowKit
open Go.Proofs.Ytgimcnpkngpmiaa.Rowed Go.Proofs.Ytgimcnpkngpmiaa.Turn Go.Proofs.Ytgimcnpkngpmiaa.GoM Go.Proofs.Ytgimcnpkngpmiaa.GoK

theorem flatten_rep (zs : List Value) : ∀ (n i : Nat), (List.replicate n zs).flatten[i]? = if i < n * zs.length then some zs[i % zs.length]! else none
  | 0, i => by simp
  | n + 1, i => by
    rw [List.replicate_succ, List.flatten_cons]
    by_cases hi : i < zs.length
    · rw [List.getElem?_append_left hi, Nat.mod_eq_of_lt hi, if_pos (by rw [Nat.succ_mul]; omega), List.getElem?_eq_getElem hi]
      simp [getElem!_pos, hi]
    · have h1 : (i - zs.length < n * zs.length) ↔ (i < (n + 1) * zs.length) := by rw [Nat.succ_mul]; omega
      have h2 : (i - zs.length) % zs.length = i % zs.length := (Nat.mod_eq_sub_mod (by omega)).symm
      rw [List.getElem?_append_right (by omega), flatten_rep zs n (i - zs.length), h2]
      simp only [h1]
theorem rep_len (zs : List Value) (n : Nat) : (List.replicate n zs).flatten.length = n * zs.length := by simp
theorem zero_list (zs : List Value) (n : Nat) : (Builtin.zeroCells zs.toArray n).toList = (List.replicate n zs).flatten := by
  apply List.ext_getElem?
  intro i
  rw [flatten_rep]
  unfold Builtin.zeroCells
  by_cases hi : i < n * zs.length
  · rw [if_pos hi]; simp [hi]
  · rw [if_neg hi, List.getElem?_eq_none (by simp; omega)]
theorem run_clearK {P : Program} (w : World) (t e ty : TypeId) (z : Value) (zs : List Value) (ht : P.underlying t = some (.slice e)) (hv : ∀ w, (zeroValue e).run P w = .ok z w) (hz : z.cells = zs.toArray) (h1 : ∀ u ∈ zs, u.oneCell' = true) (b o n c : Nat) (hn : 0 < n)
    (hc : ∀ j, j < n * zs.length → (w.cell? ⟨b, o + j, none⟩).isSome = true) (hf : ∀ j, j < n * zs.length → w.frozen? ⟨b, o + j, none⟩ = false) :
    (Builtin.clear_ #[t] ty #[.slice (some ⟨b, o, none⟩) n c]).run P w = .ok (.tuple #[]) (w.setCells b o (List.replicate n zs).flatten) := by
  have hl := rep_len zs n
  have hst := run_storeCells_cells (P := P) b o (List.replicate n zs).flatten 0 w (by rw [hl]; simpa using hc) (by rw [hl]; simpa using hf)
    (by intro v hv'; obtain ⟨l, hl1, hl2⟩ := List.mem_flatten.1 hv'; rw [List.eq_of_mem_replicate hl1] at hl2; exact h1 v hl2)
  simp only [Nat.add_zero] at hst
  have hzl := zero_list zs n
  obtain ⟨m, rfl⟩ : ∃ m, n = m + 1 := ⟨n - 1, by omega⟩
  simp [Builtin.clear_, run_underlying ht, hv, hz, hzl, hst]
theorem flat_clear {α : Type} (f : α → List Value) (K : Nat) (hK : ∀ x, (f x).length = K) (l : List α) (q m : Nat) (z : α) : (l.flatMap f).take (q * K) ++ (List.replicate m (f z)).flatten = (l.take q ++ List.replicate m z).flatMap f := by
  rw [flat_take f K hK, List.flatMap_append]
  congr 1
  induction m with
  | zero => rfl
  | succ m ih => rw [List.replicate_succ, List.flatten_cons, List.replicate_succ, List.flatMap_cons, ih]
/-- clear(s[lo:]) of a row of its own, of records -/
theorem own_clearK {P : Program} {t e : TypeId} {i : TypeInfo} {k : IntKind} {K n c b : Nat} {A : Option Addr} {lo : Int} {w : World} {xs ys zs : List Value} {z : Value}
    (ht : P.underlying t = some (.slice (P.elem t))) (he : P.elem t = e) (hi : P.info? e = some i) (hs : i.size = K) (hv : i.zero = some z) (hz : z.cells = zs.toArray) (hzl : zs.length = K) (hK : 0 < K) (h1 : ∀ u ∈ zs, u.oneCell' = true)
    (h : w.ownsRow b e K (.slice A n c) n xs) (hl : 0 ≤ lo ∧ lo ≤ (n : Int)) (hd : xs.take (lo.toNat * K) ++ (List.replicate (n - lo.toNat) zs).flatten = ys) :
    ∃ A' m c' w', (∀ W, (Instr.slice t (.slice A n c) (some (.int k lo)) none none).run P W = .ok (.slice A' m c') W) ∧ (∀ ty, (Builtin.clear_ #[t] ty #[.slice A' m c']).run P w = .ok (.tuple #[]) w') ∧
      w'.ownsRow b e K (.slice A n c) n ys ∧ w.grownBy w' (Value.slice A n c).ownBlock := by
  have hR := own_room h
  have hxs : xs.length = n * K := h.1
  have hsz : ∀ W, (sizeOf (P.elem t)).run P W = .ok K W := by intro W; subst he; simp [sizeOf, typeInfo, hi, hs]
  have hrun : ∀ W, (Instr.slice t (.slice A n c) (some (.int k lo)) none none).run P W = .ok (.slice (if c = lo.toNat then A else A.map (·.add (lo.toNat * K))) (n - lo.toNat) (c - lo.toNat)) W := by
    intro W
    rw [run_slice_l (P := P) W t A n c ht k lo hl.1 hl.2, hsz W]
    rfl
  by_cases hm : n - lo.toNat = 0
  · refine ⟨_, _, _, w, hrun, ?_, ?_, Aid.grown_refl _ _⟩
    · intro ty
      rw [hm]
      generalize (if c = lo.toNat then A else A.map (·.add (lo.toNat * K))) = A'
      cases A' <;> simp [Builtin.clear_, run_underlying ht]
    · have hle : n * K ≤ lo.toNat * K := Nat.mul_le_mul_right K (by omega)
      rw [← hd, hm, List.replicate_zero, List.flatten_nil, List.append_nil, List.take_of_length_le (by omega)]
      exact h
  · obtain ⟨g, rfl⟩ := own_some h (by omega)
    have hne : ¬ c = lo.toNat := by have := hR.1; omega
    have hcl := own_cells h
    have hmul : lo.toNat * K + (n - lo.toNat) * K = n * K := by rw [← Nat.add_mul]; congr 1; omega
    have hget : ∀ j, j < n * K → (w.cell? ⟨g, j, none⟩).isSome = true := by
      intro j hj
      obtain ⟨ad, e0, hc⟩ := hcl.2 (by omega)
      obtain rfl := Option.some.inj e0
      have := hc j xs[j] (List.getElem?_eq_getElem (by omega))
      rw [add_flat, Nat.zero_add] at this
      rw [this]; rfl
    have hadd : (if c = lo.toNat then (some ⟨g, 0, none⟩ : Option Addr) else (some ⟨g, 0, none⟩ : Option Addr).map (·.add (lo.toNat * K))) = some ⟨g, lo.toNat * K, none⟩ := by
      rw [if_neg hne, Option.map_some, add_flat, Nat.zero_add]
    rw [hadd] at hrun
    have hrl : (List.replicate (n - lo.toNat) zs).flatten.length = (n - lo.toNat) * K := by rw [rep_len, hzl]
    have h2 := own_setCells (List.replicate (n - lo.toNat) zs).flatten (lo.toNat * K) h (by rw [hrl]; omega)
    refine ⟨_, _, _, _, hrun, fun ty => ?_, ?_, h2.2⟩
    · exact run_clearK w t e ty z zs (he ▸ ht) (fun w => by simp [zeroValue, typeInfo, hi, hv]) hz h1 g (lo.toNat * K) (n - lo.toNat) (c - lo.toNat) (by omega) (fun j hj => hget _ (by rw [hzl] at hj; omega)) (fun j hj => h.frozenAt _)
    · have e2 : xs.take (lo.toNat * K) ++ (List.replicate (n - lo.toNat) zs).flatten ++ xs.drop (lo.toNat * K + (List.replicate (n - lo.toNat) zs).flatten.length) = ys := by
        rw [hrl, List.drop_of_length_le (by omega), List.append_nil, hd]
      rw [← e2]
      exact h2.1
/-- s[lo:] of a row of its own, to be read -/
theorem slice_view {P : Program} {t e : TypeId} {i : TypeInfo} {k : IntKind} {K n c b : Nat} {A : Option Addr} {lo : Int} {w : World} {xs ys : List Value} {m : Nat}
    (ht : P.underlying t = some (.slice (P.elem t))) (he : P.elem t = e) (hi : P.info? e = some i) (hs : i.size = K) (h : w.ownsRow b e K (.slice A n c) n xs) (hl : 0 ≤ lo ∧ lo ≤ (n : Int)) (hm : n - lo.toNat = m) (hd : xs.drop (lo.toNat * K) = ys) :
    ∃ A' c', (∀ W, (Instr.slice t (.slice A n c) (some (.int k lo)) none none).run P W = .ok (.slice A' m c') W) ∧ (∀ W : World, W.ownsRow b e K (.slice A n c) n xs → Cells W K A' m ys) ∧ Room A' m c' := by
  have hR := own_room h
  subst hm
  have hsz : ∀ W, (sizeOf (P.elem t)).run P W = .ok K W := by intro W; subst he; simp [sizeOf, typeInfo, hi, hs]
  have hrun : ∀ W, (Instr.slice t (.slice A n c) (some (.int k lo)) none none).run P W = .ok (.slice (if c = lo.toNat then A else A.map (·.add (lo.toNat * K))) (n - lo.toNat) (c - lo.toNat)) W := by
    intro W
    rw [run_slice_l (P := P) W t A n c ht k lo hl.1 hl.2, hsz W]
    rfl
  have key : ∀ W : World, W.ownsRow b e K (.slice A n c) n xs → Cells W K (if c = lo.toNat then A else A.map (·.add (lo.toNat * K))) (n - lo.toNat) ys ∧ Room (if c = lo.toNat then A else A.map (·.add (lo.toNat * K))) (n - lo.toNat) (c - lo.toNat) := by
    intro W hW
    obtain ⟨A', c', hr, hC, hM⟩ := slice_tail (P := P) (t := t) (k := k) ht he hi hs (own_cells hW) (own_room hW) hl rfl hd
    have e1 := (hr W).symm.trans (hrun W)
    simp only [Result.ok.injEq, Value.slice.injEq, true_and, and_true] at e1
    obtain ⟨rfl, rfl⟩ := e1
    exact ⟨hC, hM⟩
  exact ⟨_, _, hrun, fun W hW => (key W hW).1, (key w h).2⟩
/-- s[:hi] of a row of its own, to be read -/
theorem slice_viewH {P : Program} {t e : TypeId} {i : TypeInfo} {k : IntKind} {K n c b : Nat} {A : Option Addr} {hi : Int} {w : World} {xs ys : List Value} {m : Nat}
    (ht : P.underlying t = some (.slice (P.elem t))) (he : P.elem t = e) (hi_ : P.info? e = some i) (hs : i.size = K) (h : w.ownsRow b e K (.slice A n c) n xs) (hl : 0 ≤ hi ∧ hi ≤ (n : Int)) (hm : hi.toNat = m) (hd : xs.take (hi.toNat * K) = ys) :
    ∃ A' c', (∀ W, (Instr.slice t (.slice A n c) none (some (.int k hi)) none).run P W = .ok (.slice A' m c') W) ∧ (∀ W : World, W.ownsRow b e K (.slice A n c) n xs → Cells W K A' m ys) ∧ Room A' m c' :=
  ⟨A, c, (slice_head ht he hi_ hs h hl hm hd).1, fun W hW => own_cells (slice_head (k := k) ht he hi_ hs hW hl hm hd).2, own_room (slice_head (k := k) ht he hi_ hs h hl hm hd).2⟩
end Go.Proofs.Ytgimcnpkngpmiaa.GoD

/- loop.example/g01062/impl.marksOf$1 as a plain function, and the contract of the program's: where the plain one has an answer, the program has it. Conditions: slices read as lists. -/
namespace Go.Proofs.Ytgimcnpkngpmiaa.GiMarksOf1
set_option linter.unusedVariables false
set_option linter.unusedSimpArgs false
open Go.RowKit
open Go.Proofs.Ytgimcnpkngpmiaa.Rowed Go.Proofs.Ytgimcnpkngpmiaa.Turn Go.Proofs.Ytgimcnpkngpmiaa.Aid Go.Proofs.Ytgimcnpkngpmiaa.GoP Go.Proofs.Ytgimcnpkngpmiaa.GoM

def P (p : Go.Proofs.Ytgimcnpkngpmiaa.PPostmark.Postmark) (hq0 : ByteArray) : Option (Bool) :=
  unPostmark p fun (p_id : Int) (p_town : ByteArray) (p_kind_ : Int) (p_first : Int) (p_last : Int) (p_lost : ByteArray) =>
  letK (!(p_town.toList == hq0.toList)) fun (t_5 : Bool) =>
  some t_5

set_option maxRecDepth 100000 in
set_option maxHeartbeats 2000000 in
theorem C (p : Go.Proofs.Ytgimcnpkngpmiaa.PPostmark.Postmark) (hq0 : ByteArray)  (gq0 : Nat) (w : World)  (Fq0h : Hid (w.cell? ⟨gq0, 0, none⟩ = some (.string hq0))) {r : Bool} (H : Hid (P p hq0 = some r)) :
    Calls Try.prog 80 #[p.val, .pointer (some ⟨gq0, 0, none⟩)] w (Gives (.bool r) w) := by
  have HB := Lib.hid (Below.refl w.heap.size w)
  unfold P at H
  obtain ⟨p_id, p_town, p_kind_, p_first, p_last, p_lost⟩ := p
  replace H := unPostmark_hid H
  unfold Go.Proofs.Ytgimcnpkngpmiaa.PPostmark.Postmark.val
  have Fq0 := Fq0h.out
  go_enter Try.func80, Try.ntmps80
  obtain ⟨w_p_0, hw_p_0⟩ : ∃ x, w.alloc (.cells #[.int .i64 p_id, .string p_town, .int .i64 p_kind_, .int .i64 p_first, .int .i64 p_last, .string p_lost] 26) = x := ⟨_, rfl⟩
  have bw_p_0 : Below w.heap.size w w_p_0 := by rw [← hw_p_0]; exact (Below.refl _ _).alloc (Nat.le_refl _) _
  have HBw_p_0 := Lib.hid (Below.step HB.out bw_p_0)
  have Fq0__158 := cell_below bw_p_0 Fq0
  clear bw_p_0
  have kp_0_0 : w_p_0.cell? ⟨w.heap.size, 0, none⟩ = some (.int .i64 p_id) := by rw [← hw_p_0]; exact box_new _ _ _ 0 _ rfl
  have kp_0_1 : w_p_0.cell? ⟨w.heap.size, 1, none⟩ = some (.string p_town) := by rw [← hw_p_0]; exact box_new _ _ _ 1 _ rfl
  have kp_0_2 : w_p_0.cell? ⟨w.heap.size, 2, none⟩ = some (.int .i64 p_kind_) := by rw [← hw_p_0]; exact box_new _ _ _ 2 _ rfl
  have kp_0_3 : w_p_0.cell? ⟨w.heap.size, 3, none⟩ = some (.int .i64 p_first) := by rw [← hw_p_0]; exact box_new _ _ _ 3 _ rfl
  have kp_0_4 : w_p_0.cell? ⟨w.heap.size, 4, none⟩ = some (.int .i64 p_last) := by rw [← hw_p_0]; exact box_new _ _ _ 4 _ rfl
  have kp_0_5 : w_p_0.cell? ⟨w.heap.size, 5, none⟩ = some (.string p_lost) := by rw [← hw_p_0]; exact box_new _ _ _ 5 _ rfl
  replace H := let_hid H
  obtain ⟨t_5, ht_5, H⟩ := H
  obtain rfl := ret_hid H
  go_wp2_with fail
  go_ret
  exact ⟨rfl, HBw_p_0.out⟩
end Go.Proofs.Ytgimcnpkngpmiaa.GiMarksOf1

/- slices.IndexFunc[[]loop.example/g01062/impl.Postmark,loop.example/g01062/impl.Postmark] as a plain function, and the contract of the program's: where the plain one has an answer, the program has it. Conditions: slices read as lists. -/
namespace Go.Proofs.Ytgimcnpkngpmiaa.GxSlicesIndexFuncLoopExampleG01062ImplPostmarkLoopExampleG01062ImplPostmarkiMarksOf1
set_option linter.unusedVariables false
set_option linter.unusedSimpArgs false
open Go.RowKit
open Go.Proofs.Ytgimcnpkngpmiaa.Rowed Go.Proofs.Ytgimcnpkngpmiaa.Turn Go.Proofs.Ytgimcnpkngpmiaa.Aid Go.Proofs.Ytgimcnpkngpmiaa.GoP Go.Proofs.Ytgimcnpkngpmiaa.GoM

def l0 (s_0 : (List Go.Proofs.Ytgimcnpkngpmiaa.PPostmark.Postmark)) (hf1_0 : ByteArray) (k0 : Nat) (s : Unit) (nx0 bk0 : Unit → Option (Int)) : Option (Int) :=
  
  Option.bind (idx s_0 (k0 : Int)) fun (yt_10 : Go.Proofs.Ytgimcnpkngpmiaa.PPostmark.Postmark) =>
  unPostmark yt_10 fun (t_10_id : Int) (t_10_town : ByteArray) (t_10_kind_ : Int) (t_10_first : Int) (t_10_last : Int) (t_10_lost : ByteArray) =>
  Option.bind (Go.Proofs.Ytgimcnpkngpmiaa.GiMarksOf1.P (Go.Proofs.Ytgimcnpkngpmiaa.PPostmark.Postmark.mk t_10_id t_10_town t_10_kind_ t_10_first t_10_last t_10_lost) hf1_0) fun (t_12 : Bool) =>
  iteK t_12
  (some (k0 : Int))
  (appK nx0 ())

def e0  (s : Unit) : Option (Int) :=
  
  some (-1)

def P (s_0 : (List Go.Proofs.Ytgimcnpkngpmiaa.PPostmark.Postmark)) (hf1_0 : ByteArray) : Option (Int) :=
  cntK (l0 s_0 hf1_0) (s_0.length) 0 () (e0 )

set_option maxRecDepth 100000 in
set_option maxHeartbeats 2000000 in
theorem C (s_0 : (List Go.Proofs.Ytgimcnpkngpmiaa.PPostmark.Postmark)) (hf1_0 : ByteArray) (A0 : Option Addr) (c0 : Nat) (gf1_0 : Nat) (w : World) (M0 : Hid (Cells w 6 A0 s_0.length (Go.Proofs.Ytgimcnpkngpmiaa.PPostmark.flat s_0))) (N0 : Hid (s_0.length ≤ 9223372036854775807)) (Ff1_0h : Hid (w.cell? ⟨gf1_0, 0, none⟩ = some (.string hf1_0))) {r : Int} (H : Hid (P s_0 hf1_0 = some r)) :
    Calls Try.prog 77 #[.slice A0 s_0.length c0, .func (.func 80) #[] #[.pointer (some ⟨gf1_0, 0, none⟩)]] w (Gives (.int .i64 r) w) := by
  have HB := Lib.hid (Below.refl w.heap.size w)
  unfold P at H
  have N0o := N0.out
  have Ff1_0 := Ff1_0h.out
  go_enter Try.func77, Try.ntmps77
  go_wp2_with fail
  go_loopg [8] (s_0.length) (fun m_ v8_ wr => ∃ (k0 : Nat) , k0 + m_ = s_0.length ∧ v8_ = .int .i64 (k0 : Int) ∧ Hid (cntK (l0 s_0 hf1_0) m_ k0 () (e0 ) = some r) ∧ Hid (Below w.heap.size w wr) ∧ wr.cell? ⟨gf1_0, 0, none⟩ = some (.string hf1_0))
  case atStart => exact ⟨0, by omega, rfl, H, HB, Ff1_0⟩
  case round =>
    obtain ⟨k0, hkm0, rfl, H, HBwr0, Ff1_0⟩ := hrel
    rename World => wr0
    cases gk with
    | zero =>
      obtain rfl : k0 = s_0.length := by omega
      have hc0 : decide (((s_0.length : Nat) : Int) < ((s_0.length : Nat) : Int)) = false := by simp
      replace H := cnt_zero H
      unfold e0 at H
      obtain rfl := ret_hid H
      go_wp2_with fail
      go_ret
      exact ⟨rfl, HBwr0.out⟩
    | succ m0 =>
      have hlt0 : k0 < s_0.length := by omega
      have hc0 : decide ((k0 : Int) < ((s_0.length : Nat) : Int)) = true := by simp; omega
      replace H := cnt_succ H
      unfold l0 at H
      replace H := idx_hid H
      obtain ⟨nt_10, yt_10, et_10, lt_10, gt_10, H⟩ := H
      obtain rfl : k0 = nt_10 := by omega
      clear et_10
      obtain ⟨t_10_id, t_10_town, t_10_kind_, t_10_first, t_10_last, t_10_lost⟩ := yt_10
      replace H := unPostmark_hid H
      obtain ⟨ab_t_10, ao_t_10, zt_10, At_10, z_t_10, ct_10_0, ct_10_1, ct_10_2, ct_10_3, ct_10_4, ct_10_5⟩ := Go.Proofs.Ytgimcnpkngpmiaa.OPostmark.at_ M0.out lt_10
      obtain rfl := Option.some.inj (gt_10.out.symm.trans z_t_10)
      subst At_10
      have ltt_10 := cell_lt ct_10_0
      replace ct_10_0 := cell_below HBwr0.out ct_10_0
      replace ct_10_1 := cell_below HBwr0.out ct_10_1
      replace ct_10_2 := cell_below HBwr0.out ct_10_2
      replace ct_10_3 := cell_below HBwr0.out ct_10_3
      replace ct_10_4 := cell_below HBwr0.out ct_10_4
      replace ct_10_5 := cell_below HBwr0.out ct_10_5
      clear z_t_10
      have b0t_10 : (0 : Int) ≤ (k0 : Int) := by omega
      have b1t_10 : (k0 : Int) < ((s_0.length : Nat) : Int) := by omega
      have b2t_10 : ((k0 : Int)).toNat = k0 := by omega
      replace H := bind_hid H
      obtain ⟨t_12, qt_12, H⟩ := H
      go_wp2_with fail
      go_at_call 80
      refine (Go.Proofs.Ytgimcnpkngpmiaa.GiMarksOf1.C ((Go.Proofs.Ytgimcnpkngpmiaa.PPostmark.Postmark.mk t_10_id t_10_town t_10_kind_ t_10_first t_10_last t_10_lost)) (hf1_0) (gf1_0) _   (Lib.hid Ff1_0) qt_12).mono ?_
      rintro e_t_12 wt_12 ⟨rfl, bt_12⟩
      have HBwt_12 := Lib.hid (Below.step HBwr0.out bt_12)
      replace Ff1_0 := cell_below bt_12 Ff1_0
      replace ct_10_0 := cell_below bt_12 ct_10_0
      replace ct_10_1 := cell_below bt_12 ct_10_1
      replace ct_10_2 := cell_below bt_12 ct_10_2
      replace ct_10_3 := cell_below bt_12 ct_10_3
      replace ct_10_4 := cell_below bt_12 ct_10_4
      replace ct_10_5 := cell_below bt_12 ct_10_5
      clear bt_12
      cases t_12 with
      | false =>
        replace H := ite_f H
        replace H := app_hid H
        go_wp2_with fail
        go_roundg m0
        case measure => omega
        case rel => exact ⟨k0 + 1, by omega, by go_num, H, HBwt_12, Ff1_0⟩
      | true =>
        replace H := ite_t H
        obtain rfl := ret_hid H
        go_wp2_with fail
        go_ret
        exact ⟨rfl, HBwt_12.out⟩
end Go.Proofs.Ytgimcnpkngpmiaa.GxSlicesIndexFuncLoopExampleG01062ImplPostmarkLoopExampleG01062ImplPostmarkiMarksOf1

/- slices.DeleteFunc[[]loop.example/g01062/impl.Postmark,loop.example/g01062/impl.Postmark] as a plain function, and the contract of the program's: where the plain one has an answer, the program has it. Conditions: slices read as lists. -/
namespace Go.Proofs.Ytgimcnpkngpmiaa.GxSlicesDeleteFuncLoopExampleG01062ImplPostmarkLoopExampleG01062ImplPostmarkiMarksOf1
set_option linter.unusedVariables false
set_option linter.unusedSimpArgs false
open Go.RowKit
open Go.Proofs.Ytgimcnpkngpmiaa.Rowed Go.Proofs.Ytgimcnpkngpmiaa.Turn Go.Proofs.Ytgimcnpkngpmiaa.Aid Go.Proofs.Ytgimcnpkngpmiaa.GoP Go.Proofs.Ytgimcnpkngpmiaa.GoM

def l0 (hf1_0 : ByteArray) (s : (List Go.Proofs.Ytgimcnpkngpmiaa.PPostmark.Postmark) × Int × Int) (nx0 bk0 : (List Go.Proofs.Ytgimcnpkngpmiaa.PPostmark.Postmark) × Int × Int → Option ((List Go.Proofs.Ytgimcnpkngpmiaa.PPostmark.Postmark))) : Option ((List Go.Proofs.Ytgimcnpkngpmiaa.PPostmark.Postmark)) :=
  unp3 s fun s_0l0 i_5l0 j_6l0 =>
  letK (decide (j_6l0 < (s_0l0.length : Int))) fun (t_15 : Bool) =>
  iteK t_15
  (Option.bind (idx s_0l0 j_6l0) fun (yt_18 : Go.Proofs.Ytgimcnpkngpmiaa.PPostmark.Postmark) =>
  unPostmark yt_18 fun (t_18_id : Int) (t_18_town : ByteArray) (t_18_kind_ : Int) (t_18_first : Int) (t_18_last : Int) (t_18_lost : ByteArray) =>
  Option.bind (Go.Proofs.Ytgimcnpkngpmiaa.GiMarksOf1.P (Go.Proofs.Ytgimcnpkngpmiaa.PPostmark.Postmark.mk t_18_id t_18_town t_18_kind_ t_18_first t_18_last t_18_lost) hf1_0) fun (t_24 : Bool) =>
  letK (!t_24) fun (t_25 : Bool) =>
  iteK t_25
  (Option.bind (idx s_0l0 i_5l0) fun (yt_29 : Go.Proofs.Ytgimcnpkngpmiaa.PPostmark.Postmark) =>
  unPostmark yt_29 fun (t_29_id : Int) (t_29_town : ByteArray) (t_29_kind_ : Int) (t_29_first : Int) (t_29_last : Int) (t_29_lost : ByteArray) =>
  letK (s_0l0.set (i_5l0).toNat (Go.Proofs.Ytgimcnpkngpmiaa.PPostmark.Postmark.mk t_18_id t_18_town t_18_kind_ t_18_first t_18_last t_18_lost)) fun (l30_30 : (List Go.Proofs.Ytgimcnpkngpmiaa.PPostmark.Postmark)) =>
  letK (IntKind.i64.wrap (i_5l0 + 1)) fun (t_32 : Int) =>
  letK (IntKind.i64.wrap (j_6l0 + 1)) fun (t_35 : Int) =>
  appK nx0 (l30_30, t_32, t_35))
  (letK (IntKind.i64.wrap (j_6l0 + 1)) fun (t_35 : Int) =>
  appK nx0 (s_0l0, i_5l0, t_35)))
  (appK bk0 (s_0l0, i_5l0, j_6l0))

def e0  (s : (List Go.Proofs.Ytgimcnpkngpmiaa.PPostmark.Postmark) × Int × Int) : Option ((List Go.Proofs.Ytgimcnpkngpmiaa.PPostmark.Postmark)) :=
  unp3 s fun s_0l0 i_5l0 j_6l0 =>
  guardK ((0 : Int) ≤ i_5l0 ∧ (i_5l0 : Int) ≤ (s_0l0.length : Int)) <|
  letK (List.take (Int.toNat i_5l0) s_0l0 ++ List.replicate (s_0l0.length - Int.toNat i_5l0) (Go.Proofs.Ytgimcnpkngpmiaa.PPostmark.Postmark.mk 0 ByteArray.empty 0 0 0 ByteArray.empty)) fun (cl_40 : (List Go.Proofs.Ytgimcnpkngpmiaa.PPostmark.Postmark)) =>
  guardK ((0 : Int) ≤ i_5l0 ∧ (i_5l0 : Int) ≤ (cl_40.length : Int)) <|
  letK (List.take (Int.toNat i_5l0) cl_40) fun (t_43 : (List Go.Proofs.Ytgimcnpkngpmiaa.PPostmark.Postmark)) =>
  some t_43

def P (fuel : Nat) (s_0 : (List Go.Proofs.Ytgimcnpkngpmiaa.PPostmark.Postmark)) (hf1_0 : ByteArray) : Option ((List Go.Proofs.Ytgimcnpkngpmiaa.PPostmark.Postmark)) :=
  Option.bind (Go.Proofs.Ytgimcnpkngpmiaa.GxSlicesIndexFuncLoopExampleG01062ImplPostmarkLoopExampleG01062ImplPostmarkiMarksOf1.P s_0 hf1_0) fun (t_3 : Int) =>
  letK (t_3 == (-1)) fun (t_6 : Bool) =>
  iteK t_6
  (some s_0)
  (letK (IntKind.i64.wrap (t_3 + 1)) fun (t_10 : Int) =>
  loopK (l0 hf1_0) fuel (s_0, t_3, t_10) (e0 ))

set_option maxRecDepth 100000 in
set_option maxHeartbeats 2000000 in
theorem C (fuel : Nat) (s_0 : (List Go.Proofs.Ytgimcnpkngpmiaa.PPostmark.Postmark)) (hf1_0 : ByteArray) (A0 : Option Addr) (c0 : Nat) (gf1_0 : Nat) (b0 : Nat) (w : World) (M0 : Hid (w.ownsRow b0 26 6 (.slice A0 s_0.length c0) s_0.length (Go.Proofs.Ytgimcnpkngpmiaa.PPostmark.flat s_0))) (N0 : Hid (s_0.length ≤ 9223372036854775807)) (Ff1_0h : Hid (w.cell? ⟨gf1_0, 0, none⟩ = some (.string hf1_0))) (LB : Hid (b0 ≤ w.heap.size)) (XHgf1_0 : Hid (Apart A0 (some ⟨gf1_0, 0, none⟩))) {r : (List Go.Proofs.Ytgimcnpkngpmiaa.PPostmark.Postmark)} (H : Hid (P fuel s_0 hf1_0 = some r)) :
    Calls Try.prog 79 #[.slice A0 s_0.length c0, .func (.func 80) #[] #[.pointer (some ⟨gf1_0, 0, none⟩)]] w (fun e w' => ∃ A_r c_r, e = .returned (.slice A_r r.length c_r) ∧ w'.ownsRow b0 26 6 (.slice A_r r.length c_r) r.length (Go.Proofs.Ytgimcnpkngpmiaa.PPostmark.flat r) ∧ w.grownBy w' (Value.slice A0 s_0.length c0).ownBlock ∧ Go.Proofs.Ytgimcnpkngpmiaa.GoK.From w A0 A_r) := by
  have HB := Lib.hid (Aid.grown_refl w (Value.slice A0 s_0.length c0).ownBlock)
  unfold P at H
  have N0o := N0.out
  have Ff1_0 := Ff1_0h.out
  obtain ⟨i0_26, hi_26, hz0_26, hz1_26, hz2_26⟩ := Aid.info_parts (P := Try.prog) (T := 26) (z := .agg #[.int .i64 0, .string ByteArray.empty, .int .i64 0, .int .i64 0, .int .i64 0, .string ByteArray.empty]) (s := 6) (b := 64) (by kernel_rfl)
  go_enter Try.func79, Try.ntmps79
  replace H := bind_hid H
  obtain ⟨t_3, qt_3, H⟩ := H
  go_wp2_with fail
  go_at_call 77
  refine (Go.Proofs.Ytgimcnpkngpmiaa.GxSlicesIndexFuncLoopExampleG01062ImplPostmarkLoopExampleG01062ImplPostmarkiMarksOf1.C (s_0) (hf1_0) A0 c0 (gf1_0) _   (Lib.hid (own_cells M0.out)) (Lib.hid (own_max M0.out)) (Lib.hid Ff1_0) qt_3).mono ?_
  rintro e_t_3 wt_3 ⟨rfl, bt_3⟩
  have HBwt_3 := Lib.hid (grown_below HB.out bt_3)
  replace Ff1_0 := cell_below bt_3 Ff1_0
  replace M0 := Lib.hid (own_below M0.out bt_3)
  clear bt_3
  replace H := let_hid H
  obtain ⟨t_6, ht_6, H⟩ := H
  cases t_6 with
  | false =>
    replace H := ite_f H
    replace H := let_hid H
    obtain ⟨t_10, ht_10, H⟩ := H
    go_wp2_with fail
    go_wp2_with fail
    go_loopg [5, 6] (fuel) (fun m_ v5_ v6_ wr => ∃ (s_0l0 : (List Go.Proofs.Ytgimcnpkngpmiaa.PPostmark.Postmark)) (i_5l0 : Int) (j_6l0 : Int), v5_ = .int .i64 i_5l0 ∧ v6_ = .int .i64 j_6l0 ∧ Hid (loopK (l0 hf1_0) m_ (s_0l0, i_5l0, j_6l0) (e0 ) = some r) ∧ Hid (w.grownBy wr (Value.slice A0 s_0.length c0).ownBlock) ∧ wr.cell? ⟨gf1_0, 0, none⟩ = some (.string hf1_0) ∧ Hid (wr.ownsRow b0 26 6 (.slice A0 s_0.length c0) s_0.length (Go.Proofs.Ytgimcnpkngpmiaa.PPostmark.flat s_0l0)) ∧ Hid (s_0l0.length = s_0.length))
    case atStart => exact ⟨_, _, _, rfl, rfl, H, HBwt_3, Ff1_0, M0, Lib.hid (rfl)⟩
    case round =>
      obtain ⟨s_0l0, i_5l0, j_6l0, rfl, rfl, H, HBwr0, Ff1_0, Os_0l0, hns_0l0⟩ := hrel
      rename World => wr0
      cases gk with
      | zero => exact (loop_zero H).elim
      | succ m0 =>
        replace H := loop_succ H
        unfold l0 at H
        replace H := unp3_hid H
        try rw [show s_0l0.length = s_0.length from hns_0l0.out] at H
        replace H := let_hid H
        obtain ⟨t_15, ht_15, H⟩ := H
        cases t_15 with
        | false =>
          replace H := ite_f H
          replace H := app_hid H
          unfold e0 at H
          replace H := unp3_hid H
          try rw [show s_0l0.length = s_0.length from hns_0l0.out] at H
          replace H := guard_hid H
          obtain ⟨hl_cl_40, H⟩ := H
          replace H := let_hid H
          obtain ⟨cl_40, hcl_40, H⟩ := H
          have dcl_40 : ((Go.Proofs.Ytgimcnpkngpmiaa.PPostmark.flat s_0l0)).take (Int.toNat i_5l0 * 6) ++ (List.replicate (s_0.length - Int.toNat i_5l0) [.int .i64 0, .string (⟨#[]⟩ : ByteArray), .int .i64 0, .int .i64 0, .int .i64 0, .string (⟨#[]⟩ : ByteArray)]).flatten = (Go.Proofs.Ytgimcnpkngpmiaa.PPostmark.flat cl_40) := by rw [← hcl_40]; exact Go.Proofs.Ytgimcnpkngpmiaa.GoD.flat_clear Go.Proofs.Ytgimcnpkngpmiaa.PPostmark.Postmark.cells 6 (fun _ => rfl) s_0l0 (Int.toNat i_5l0) (s_0.length - Int.toNat i_5l0) ((Go.Proofs.Ytgimcnpkngpmiaa.PPostmark.Postmark.mk 0 ByteArray.empty 0 0 0 ByteArray.empty))
          have ncl_40 : Hid (cl_40.length = s_0.length) := Lib.hid (by have hq_ := hns_0l0.out; rw [← hcl_40, List.length_append, List.length_take, List.length_replicate]; omega)
          obtain ⟨Acl_40, mcl_40, ccl_40, wcl_40, rcl_40, ucl_40, ocl_40, gcl_40⟩ := Go.Proofs.Ytgimcnpkngpmiaa.GoD.own_clearK (P := Try.prog) (t := 32) (e := 26) (k := .i64) (zs := [.int .i64 0, .string (⟨#[]⟩ : ByteArray), .int .i64 0, .int .i64 0, .int .i64 0, .string (⟨#[]⟩ : ByteArray)]) (by kernel_rfl) (by kernel_rfl) hi_26 hz1_26 hz0_26 (by rfl) (by rfl) (by decide) (by intro u_ hu_; simp only [List.mem_cons, List.not_mem_nil, or_false] at hu_; rcases hu_ with rfl | rfl | rfl | rfl | rfl | rfl <;> rfl) Os_0l0.out hl_cl_40 dcl_40
          have Pcl_40 := Lib.hid ocl_40
          have Gcl_40 := Lib.hid gcl_40
          clear ocl_40 gcl_40 dcl_40 hl_cl_40
          have hhcl_40 := Lib.hid hcl_40
          clear hcl_40
          have HBwcl_40 := Lib.hid (Aid.grown_tr HBwr0.out Gcl_40.out)
          have Ff1_0__159 := cell_other Ff1_0 Gcl_40.out XHgf1_0.out
          clear Os_0l0 Gcl_40
          replace H := guard_hid H
          obtain ⟨hl_t_43, H⟩ := H
          replace H := let_hid H
          obtain ⟨t_43, ht_43, H⟩ := H
          have dt_43 : ((Go.Proofs.Ytgimcnpkngpmiaa.PPostmark.flat cl_40)).take (Int.toNat i_5l0 * 6) = (Go.Proofs.Ytgimcnpkngpmiaa.PPostmark.flat t_43) := by
            rw [← ht_43]
            exact flat_take Go.Proofs.Ytgimcnpkngpmiaa.PPostmark.Postmark.cells 6 (fun _ => rfl) _ _
          have nt_43 : Int.toNat i_5l0 = t_43.length := by rw [← ht_43, List.length_take]; have h_ := ncl_40.out; omega
          replace hl_t_43 : (0 : Int) ≤ i_5l0 ∧ (i_5l0 : Int) ≤ ((s_0.length : Nat) : Int) := by have h_ := ncl_40.out; omega
          obtain ⟨rt_43, Ot_43⟩ := slice_head (P := Try.prog) (t := 32) (e := 26) (k := .i64) (by kernel_rfl) (by kernel_rfl) hi_26 hz1_26 Pcl_40.out hl_t_43 nt_43 dt_43
          replace Ot_43 := Lib.hid Ot_43
          clear dt_43 nt_43 hl_t_43
          have hht_43 := Lib.hid ht_43
          clear ht_43
          obtain rfl := ret_hid H
          go_wp2_with fail
          go_ret
          exact ⟨A0, c0, rfl, Ot_43.out, HBwcl_40.out, Go.Proofs.Ytgimcnpkngpmiaa.GoK.from_self⟩
        | true =>
          replace H := ite_t H
          replace H := idx_hid H
          obtain ⟨nt_18, yt_18, et_18, lt_18, gt_18, H⟩ := H
          subst et_18
          have nc_160 : nt_18 < s_0.length := by have := of_decide_eq_true ht_15; omega
          obtain ⟨t_18_id, t_18_town, t_18_kind_, t_18_first, t_18_last, t_18_lost⟩ := yt_18
          replace H := unPostmark_hid H
          have hqt_18 := hns_0l0.out
          obtain ⟨qt_18, Qt_18⟩ := own_some Os_0l0.out (by omega)
          subst Qt_18
          obtain ⟨ab_t_18, ao_t_18, zt_18, At_18, z_t_18, ct_18_0, ct_18_1, ct_18_2, ct_18_3, ct_18_4, ct_18_5⟩ := Go.Proofs.Ytgimcnpkngpmiaa.OPostmark.at_ (own_cells Os_0l0.out) (k := nt_18) (by omega)
          obtain rfl := Option.some.inj (gt_18.out.symm.trans z_t_18)
          simp only [Option.some.injEq, Addr.mk.injEq] at At_18
          obtain ⟨rfl, rfl, _⟩ := At_18
          clear z_t_18
          simp only [Nat.zero_add] at ct_18_0 ct_18_1 ct_18_2 ct_18_3 ct_18_4 ct_18_5
          have b0t_18 : (0 : Int) ≤ (nt_18 : Int) := by omega
          have b1t_18 : (nt_18 : Int) < ((s_0.length : Nat) : Int) := by omega
          have b2t_18 : ((nt_18 : Int)).toNat = nt_18 := by omega
          clear hqt_18
          obtain ⟨w_v_20, hw_v_20⟩ : ∃ x, wr0.alloc (.cells #[.int .i64 t_18_id, .string t_18_town, .int .i64 t_18_kind_, .int .i64 t_18_first, .int .i64 t_18_last, .string t_18_lost] 26) = x := ⟨_, rfl⟩
          have bw_v_20 : Below wr0.heap.size wr0 w_v_20 := by rw [← hw_v_20]; exact (Below.refl _ _).alloc (Nat.le_refl _) _
          have Dv_20_s_0l0 := Lib.hid (apart_fresh Os_0l0.out)
          have HBw_v_20 := Lib.hid (grown_below HBwr0.out bw_v_20)
          have Ff1_0__161 := cell_below bw_v_20 Ff1_0
          have ct_18_0__162 := cell_below bw_v_20 ct_18_0
          have ct_18_1__163 := cell_below bw_v_20 ct_18_1
          have ct_18_2__164 := cell_below bw_v_20 ct_18_2
          have ct_18_3__165 := cell_below bw_v_20 ct_18_3
          have ct_18_4__166 := cell_below bw_v_20 ct_18_4
          have ct_18_5__167 := cell_below bw_v_20 ct_18_5
          replace Os_0l0 := Lib.hid (own_below Os_0l0.out bw_v_20)
          clear bw_v_20
          have kv_20_0 : w_v_20.cell? ⟨wr0.heap.size, 0, none⟩ = some (.int .i64 t_18_id) := by rw [← hw_v_20]; exact box_new _ _ _ 0 _ rfl
          have kv_20_1 : w_v_20.cell? ⟨wr0.heap.size, 1, none⟩ = some (.string t_18_town) := by rw [← hw_v_20]; exact box_new _ _ _ 1 _ rfl
          have kv_20_2 : w_v_20.cell? ⟨wr0.heap.size, 2, none⟩ = some (.int .i64 t_18_kind_) := by rw [← hw_v_20]; exact box_new _ _ _ 2 _ rfl
          have kv_20_3 : w_v_20.cell? ⟨wr0.heap.size, 3, none⟩ = some (.int .i64 t_18_first) := by rw [← hw_v_20]; exact box_new _ _ _ 3 _ rfl
          have kv_20_4 : w_v_20.cell? ⟨wr0.heap.size, 4, none⟩ = some (.int .i64 t_18_last) := by rw [← hw_v_20]; exact box_new _ _ _ 4 _ rfl
          have kv_20_5 : w_v_20.cell? ⟨wr0.heap.size, 5, none⟩ = some (.string t_18_lost) := by rw [← hw_v_20]; exact box_new _ _ _ 5 _ rfl
          replace H := bind_hid H
          obtain ⟨t_24, qt_24, H⟩ := H
          go_wp2_with fail
          clear Ff1_0 ct_18_0 ct_18_1 ct_18_2 ct_18_3 ct_18_4 ct_18_5
          go_at_call 80
          refine (Go.Proofs.Ytgimcnpkngpmiaa.GiMarksOf1.C ((Go.Proofs.Ytgimcnpkngpmiaa.PPostmark.Postmark.mk t_18_id t_18_town t_18_kind_ t_18_first t_18_last t_18_lost)) (hf1_0) (gf1_0) _   (Lib.hid Ff1_0__161) qt_24).mono ?_
          rintro e_t_24 wt_24 ⟨rfl, bt_24⟩
          have HBwt_24 := Lib.hid (grown_below HBw_v_20.out bt_24)
          replace Ff1_0__161 := cell_below bt_24 Ff1_0__161
          replace ct_18_0__162 := cell_below bt_24 ct_18_0__162
          replace ct_18_1__163 := cell_below bt_24 ct_18_1__163
          replace ct_18_2__164 := cell_below bt_24 ct_18_2__164
          replace ct_18_3__165 := cell_below bt_24 ct_18_3__165
          replace ct_18_4__166 := cell_below bt_24 ct_18_4__166
          replace ct_18_5__167 := cell_below bt_24 ct_18_5__167
          replace kv_20_0 := cell_below bt_24 kv_20_0
          replace kv_20_1 := cell_below bt_24 kv_20_1
          replace kv_20_2 := cell_below bt_24 kv_20_2
          replace kv_20_3 := cell_below bt_24 kv_20_3
          replace kv_20_4 := cell_below bt_24 kv_20_4
          replace kv_20_5 := cell_below bt_24 kv_20_5
          replace Os_0l0 := Lib.hid (own_below Os_0l0.out bt_24)
          clear bt_24
          cases t_24 with
          | false =>
            replace H := let_hid H
            obtain ⟨t_25, ht_25, H⟩ := H
            obtain rfl : t_25 = true := ht_25.symm
            replace H := ite_t H
            replace H := idx_hid H
            obtain ⟨nt_29, yt_29, et_29, lt_29, gt_29, H⟩ := H
            subst et_29
            obtain ⟨t_29_id, t_29_town, t_29_kind_, t_29_first, t_29_last, t_29_lost⟩ := yt_29
            replace H := unPostmark_hid H
            have hqt_29 := hns_0l0.out
            obtain ⟨ab_t_29, ao_t_29, zt_29, At_29, z_t_29, ct_29_0, ct_29_1, ct_29_2, ct_29_3, ct_29_4, ct_29_5⟩ := Go.Proofs.Ytgimcnpkngpmiaa.OPostmark.at_ (own_cells Os_0l0.out) (k := nt_29) (by omega)
            obtain rfl := Option.some.inj (gt_29.out.symm.trans z_t_29)
            simp only [Option.some.injEq, Addr.mk.injEq] at At_29
            obtain ⟨rfl, rfl, _⟩ := At_29
            clear z_t_29
            simp only [Nat.zero_add] at ct_29_0 ct_29_1 ct_29_2 ct_29_3 ct_29_4 ct_29_5
            have b0t_29 : (0 : Int) ≤ (nt_29 : Int) := by omega
            have b1t_29 : (nt_29 : Int) < ((s_0.length : Nat) : Int) := by omega
            have b2t_29 : ((nt_29 : Int)).toNat = nt_29 := by omega
            clear hqt_29
            replace H := let_hid H
            obtain ⟨l30_30, hl30_30, H⟩ := H
            try simp only [Int.toNat_natCast] at hl30_30
            obtain ⟨wl30_30, hwl30_30⟩ : ∃ x, ((((((wt_24).setCell ⟨qt_18, nt_29 * 6, none⟩ (.int .i64 t_18_id)).setCell ⟨qt_18, nt_29 * 6 + 1, none⟩ (.string t_18_town)).setCell ⟨qt_18, nt_29 * 6 + 2, none⟩ (.int .i64 t_18_kind_)).setCell ⟨qt_18, nt_29 * 6 + 3, none⟩ (.int .i64 t_18_first)).setCell ⟨qt_18, nt_29 * 6 + 4, none⟩ (.int .i64 t_18_last)).setCell ⟨qt_18, nt_29 * 6 + 5, none⟩ (.string t_18_lost) = x := ⟨_, rfl⟩
            have z0l30_30 := Os_0l0.out.frozenAt (nt_29 * 6)
            have z1l30_30 := Os_0l0.out.frozenAt (nt_29 * 6 + 1)
            have z2l30_30 := Os_0l0.out.frozenAt (nt_29 * 6 + 2)
            have z3l30_30 := Os_0l0.out.frozenAt (nt_29 * 6 + 3)
            have z4l30_30 := Os_0l0.out.frozenAt (nt_29 * 6 + 4)
            have z5l30_30 := Os_0l0.out.frozenAt (nt_29 * 6 + 5)
            have Sl30_30 := Lib.hid (own_stores [(nt_29 * 6, .int .i64 t_18_id), (nt_29 * 6 + 1, .string t_18_town), (nt_29 * 6 + 2, .int .i64 t_18_kind_), (nt_29 * 6 + 3, .int .i64 t_18_first), (nt_29 * 6 + 4, .int .i64 t_18_last), (nt_29 * 6 + 5, .string t_18_lost)] Os_0l0.out)
            have nl30_30 : Hid (l30_30.length = s_0.length) := Lib.hid (by rw [← hl30_30, List.length_set]; exact hns_0l0.out)
            have Pl30_30 : Hid (wl30_30.ownsRow b0 26 6 (.slice (some ⟨qt_18, 0, none⟩) s_0.length c0) s_0.length (Go.Proofs.Ytgimcnpkngpmiaa.PPostmark.flat l30_30)) := Lib.hid (by have es_ := set_self gt_29.out; have e0_ := flat_set Go.Proofs.Ytgimcnpkngpmiaa.PPostmark.Postmark.cells 6 (fun _ => rfl) s_0l0 (nt_29) 0 (Go.Proofs.Ytgimcnpkngpmiaa.PPostmark.Postmark.mk t_29_id t_29_town t_29_kind_ t_29_first t_29_last t_29_lost) (Go.Proofs.Ytgimcnpkngpmiaa.PPostmark.Postmark.mk t_18_id t_29_town t_29_kind_ t_29_first t_29_last t_29_lost) (.int .i64 t_18_id) lt_29 (by decide) rfl; have e1_ := flat_set Go.Proofs.Ytgimcnpkngpmiaa.PPostmark.Postmark.cells 6 (fun _ => rfl) s_0l0 (nt_29) 1 (Go.Proofs.Ytgimcnpkngpmiaa.PPostmark.Postmark.mk t_18_id t_29_town t_29_kind_ t_29_first t_29_last t_29_lost) (Go.Proofs.Ytgimcnpkngpmiaa.PPostmark.Postmark.mk t_18_id t_18_town t_29_kind_ t_29_first t_29_last t_29_lost) (.string t_18_town) lt_29 (by decide) rfl; have e2_ := flat_set Go.Proofs.Ytgimcnpkngpmiaa.PPostmark.Postmark.cells 6 (fun _ => rfl) s_0l0 (nt_29) 2 (Go.Proofs.Ytgimcnpkngpmiaa.PPostmark.Postmark.mk t_18_id t_18_town t_29_kind_ t_29_first t_29_last t_29_lost) (Go.Proofs.Ytgimcnpkngpmiaa.PPostmark.Postmark.mk t_18_id t_18_town t_18_kind_ t_29_first t_29_last t_29_lost) (.int .i64 t_18_kind_) lt_29 (by decide) rfl; have e3_ := flat_set Go.Proofs.Ytgimcnpkngpmiaa.PPostmark.Postmark.cells 6 (fun _ => rfl) s_0l0 (nt_29) 3 (Go.Proofs.Ytgimcnpkngpmiaa.PPostmark.Postmark.mk t_18_id t_18_town t_18_kind_ t_29_first t_29_last t_29_lost) (Go.Proofs.Ytgimcnpkngpmiaa.PPostmark.Postmark.mk t_18_id t_18_town t_18_kind_ t_18_first t_29_last t_29_lost) (.int .i64 t_18_first) lt_29 (by decide) rfl; have e4_ := flat_set Go.Proofs.Ytgimcnpkngpmiaa.PPostmark.Postmark.cells 6 (fun _ => rfl) s_0l0 (nt_29) 4 (Go.Proofs.Ytgimcnpkngpmiaa.PPostmark.Postmark.mk t_18_id t_18_town t_18_kind_ t_18_first t_29_last t_29_lost) (Go.Proofs.Ytgimcnpkngpmiaa.PPostmark.Postmark.mk t_18_id t_18_town t_18_kind_ t_18_first t_18_last t_29_lost) (.int .i64 t_18_last) lt_29 (by decide) rfl; have e5_ := flat_set Go.Proofs.Ytgimcnpkngpmiaa.PPostmark.Postmark.cells 6 (fun _ => rfl) s_0l0 (nt_29) 5 (Go.Proofs.Ytgimcnpkngpmiaa.PPostmark.Postmark.mk t_18_id t_18_town t_18_kind_ t_18_first t_18_last t_29_lost) (Go.Proofs.Ytgimcnpkngpmiaa.PPostmark.Postmark.mk t_18_id t_18_town t_18_kind_ t_18_first t_18_last t_18_lost) (.string t_18_lost) lt_29 (by decide) rfl; rw [es_] at e0_; have e_ : ([(nt_29 * 6, .int .i64 t_18_id), (nt_29 * 6 + 1, .string t_18_town), (nt_29 * 6 + 2, .int .i64 t_18_kind_), (nt_29 * 6 + 3, .int .i64 t_18_first), (nt_29 * 6 + 4, .int .i64 t_18_last), (nt_29 * 6 + 5, .string t_18_lost)] : List (Nat × Value)).foldl (fun xs p => xs.set p.1 p.2) (Go.Proofs.Ytgimcnpkngpmiaa.PPostmark.flat s_0l0) = (Go.Proofs.Ytgimcnpkngpmiaa.PPostmark.flat l30_30) := (by rw [← hl30_30]; show _ = List.flatMap Go.Proofs.Ytgimcnpkngpmiaa.PPostmark.Postmark.cells _; first | (rw [← e5_, ← e4_, ← e3_, ← e2_, ← e1_, ← e0_]; first | done | rfl) | (rw [← e5_, ← e4_, ← e3_, ← e2_, ← e1_, es_, ← e0_]; first | done | rfl)); rw [← hwl30_30, ← e_]; exact Sl30_30.out.1)
            have Gl30_30 : Hid (wt_24.grownBy wl30_30 (Value.slice (some ⟨qt_18, 0, none⟩) s_0.length c0).ownBlock) := Lib.hid (by rw [← hwl30_30]; exact Sl30_30.out.2)
            have HBwl30_30 := Lib.hid (Aid.grown_tr HBwt_24.out Gl30_30.out)
            have hhl30_30 := Lib.hid hl30_30
            clear hl30_30 Sl30_30
            have Ff1_0__168 := cell_other Ff1_0__161 Gl30_30.out XHgf1_0.out
            have kv_20_0__169 := cell_other kv_20_0 Gl30_30.out (Apart.symm Dv_20_s_0l0.out)
            have kv_20_1__170 := cell_other kv_20_1 Gl30_30.out (Apart.symm Dv_20_s_0l0.out)
            have kv_20_2__171 := cell_other kv_20_2 Gl30_30.out (Apart.symm Dv_20_s_0l0.out)
            have kv_20_3__172 := cell_other kv_20_3 Gl30_30.out (Apart.symm Dv_20_s_0l0.out)
            have kv_20_4__173 := cell_other kv_20_4 Gl30_30.out (Apart.symm Dv_20_s_0l0.out)
            have kv_20_5__174 := cell_other kv_20_5 Gl30_30.out (Apart.symm Dv_20_s_0l0.out)
            clear Os_0l0 Gl30_30
            replace H := let_hid H
            obtain ⟨t_32, ht_32, H⟩ := H
            replace H := let_hid H
            obtain ⟨t_35, ht_35, H⟩ := H
            replace H := app_hid H
            go_wp2_with fail
            clear z0l30_30 z1l30_30 z2l30_30 z3l30_30 z4l30_30 z5l30_30 Ff1_0__161 ct_18_0__162 ct_18_1__163 ct_18_2__164 ct_18_3__165 ct_18_4__166 ct_18_5__167 kv_20_0 kv_20_1 kv_20_2 kv_20_3 kv_20_4 kv_20_5 ct_29_0 ct_29_1 ct_29_2 ct_29_3 ct_29_4 ct_29_5
            go_roundg m0
            case measure => omega
            case rel => exact ⟨_, _, _, rfl, rfl, H, HBwl30_30, Ff1_0__168, Pl30_30, Lib.hid (nl30_30.out)⟩
          | true =>
            replace H := let_hid H
            obtain ⟨t_25, ht_25, H⟩ := H
            obtain rfl : t_25 = false := ht_25.symm
            replace H := ite_f H
            replace H := let_hid H
            obtain ⟨t_35, ht_35, H⟩ := H
            replace H := app_hid H
            go_wp2_with fail
            go_roundg m0
            case measure => omega
            case rel => exact ⟨_, _, _, rfl, rfl, H, HBwt_24, Ff1_0__161, Os_0l0, Lib.hid (hns_0l0.out)⟩
  | true =>
    replace H := ite_t H
    obtain rfl := ret_hid H
    go_wp2_with fail
    go_ret
    exact ⟨A0, c0, rfl, M0.out, HBwt_3.out, Go.Proofs.Ytgimcnpkngpmiaa.GoK.from_self⟩
end Go.Proofs.Ytgimcnpkngpmiaa.GxSlicesDeleteFuncLoopExampleG01062ImplPostmarkLoopExampleG01062ImplPostmarkiMarksOf1

/- loop.example/g01062/impl.marksOf as a plain function, and the contract of the program's: where the plain one has an answer, the program has it. Conditions: slices read as lists. -/
namespace Go.Proofs.Ytgimcnpkngpmiaa.GiMarksOf
set_option linter.unusedVariables false
set_option linter.unusedSimpArgs false
open Go.RowKit
open Go.Proofs.Ytgimcnpkngpmiaa.Rowed Go.Proofs.Ytgimcnpkngpmiaa.Turn Go.Proofs.Ytgimcnpkngpmiaa.Aid Go.Proofs.Ytgimcnpkngpmiaa.GoP Go.Proofs.Ytgimcnpkngpmiaa.GoM

def P (fuel : Nat) (list : (List Go.Proofs.Ytgimcnpkngpmiaa.PPostmark.Postmark)) (town : ByteArray) : Option ((List Go.Proofs.Ytgimcnpkngpmiaa.PPostmark.Postmark)) :=
  Option.bind (Go.Proofs.Ytgimcnpkngpmiaa.GiArePostmarks.P list) fun (t_3 : Bool) =>
  letK (!t_3) fun (t_4 : Bool) =>
  iteK t_4
  (some ([] : List Go.Proofs.Ytgimcnpkngpmiaa.PPostmark.Postmark))
  (Option.bind (Go.Proofs.Ytgimcnpkngpmiaa.GxSlicesCloneLoopExampleG01062ImplPostmarkLoopExampleG01062ImplPostmark.P list) fun (t_8 : (List Go.Proofs.Ytgimcnpkngpmiaa.PPostmark.Postmark)) =>
  Option.bind (Go.Proofs.Ytgimcnpkngpmiaa.GxSlicesDeleteFuncLoopExampleG01062ImplPostmarkLoopExampleG01062ImplPostmarkiMarksOf1.P fuel t_8 town) fun (t_10 : (List Go.Proofs.Ytgimcnpkngpmiaa.PPostmark.Postmark)) =>
  some t_10)

set_option maxRecDepth 100000 in
set_option maxHeartbeats 2000000 in
theorem C (fuel : Nat) (list : (List Go.Proofs.Ytgimcnpkngpmiaa.PPostmark.Postmark)) (town : ByteArray) (A0 : Option Addr) (c0 : Nat)  (w : World) (M0 : Hid (Cells w 6 A0 list.length (Go.Proofs.Ytgimcnpkngpmiaa.PPostmark.flat list))) (N0 : Hid (list.length ≤ 9223372036854775807)) (Q0 : Hid (Room A0 list.length c0))  {r : (List Go.Proofs.Ytgimcnpkngpmiaa.PPostmark.Postmark)} (H : Hid (P fuel list town = some r)) :
    Calls Try.prog 57 #[.slice A0 list.length c0, .string town] w (fun e w' => ∃ A_r c_r, e = .returned (.slice A_r r.length c_r) ∧ w'.ownsRow w.heap.size 26 6 (.slice A_r r.length c_r) r.length (Go.Proofs.Ytgimcnpkngpmiaa.PPostmark.flat r) ∧ Below w.heap.size w w') := by
  have HB := Lib.hid (Below.refl w.heap.size w)
  unfold P at H
  have N0o := N0.out
  go_enter Try.func57, Try.ntmps57
  obtain ⟨w_town_0, hw_town_0⟩ : ∃ x, w.alloc (.cells #[.string town] 9) = x := ⟨_, rfl⟩
  have bw_town_0 : Below w.heap.size w w_town_0 := by rw [← hw_town_0]; exact (Below.refl _ _).alloc (Nat.le_refl _) _
  have HBw_town_0 := Lib.hid (Below.step HB.out bw_town_0)
  clear bw_town_0
  have ktown_0_0 : w_town_0.cell? ⟨w.heap.size, 0, none⟩ = some (.string town) := by rw [← hw_town_0]; exact box_new _ _ _ 0 _ rfl
  replace H := bind_hid H
  obtain ⟨t_3, qt_3, H⟩ := H
  go_wp2_with fail
  go_at_call 19
  refine (Go.Proofs.Ytgimcnpkngpmiaa.GiArePostmarks.C (list) A0 c0 _   (Lib.hid (Cells.below M0.out HBw_town_0.out)) N0 qt_3).mono ?_
  rintro e_t_3 wt_3 ⟨rfl, bt_3⟩
  have HBwt_3 := Lib.hid (Below.step HBw_town_0.out bt_3)
  replace ktown_0_0 := cell_below bt_3 ktown_0_0
  clear bt_3
  cases t_3 with
  | false =>
    replace H := let_hid H
    obtain ⟨t_4, ht_4, H⟩ := H
    obtain rfl : t_4 = true := ht_4.symm
    replace H := ite_t H
    obtain ⟨w_t_5, hw_t_5⟩ : ∃ x, wt_3.alloc (.cells #[] 26) = x := ⟨_, rfl⟩
    have bw_t_5 : Below wt_3.heap.size wt_3 w_t_5 := by rw [← hw_t_5]; exact (Below.refl _ _).alloc (Nat.le_refl _) _
    have Ot_5 : Hid (w_t_5.ownsRow w.heap.size 26 6 (.slice (some ⟨wt_3.heap.size, 0, none⟩) 0 0) 0 []) := Lib.hid (by rw [← hw_t_5]; exact own_empty HBwt_3.out.size)
    have Dt_5_town_0 := Lib.hid (apart_box ktown_0_0)
    have HBw_t_5 := Lib.hid (Below.step HBwt_3.out bw_t_5)
    have ktown_0_0__175 := cell_below bw_t_5 ktown_0_0
    clear bw_t_5
    obtain rfl := ret_hid H
    go_wp2_with fail
    go_ret
    exact ⟨(some ⟨wt_3.heap.size, 0, none⟩), 0, rfl, Ot_5.out, HBw_t_5.out⟩
  | true =>
    replace H := let_hid H
    obtain ⟨t_4, ht_4, H⟩ := H
    obtain rfl : t_4 = false := ht_4.symm
    replace H := ite_f H
    replace H := bind_hid H
    obtain ⟨t_8, qt_8, H⟩ := H
    go_wp2_with fail
    go_at_call 54
    refine (Go.Proofs.Ytgimcnpkngpmiaa.GxSlicesCloneLoopExampleG01062ImplPostmarkLoopExampleG01062ImplPostmark.C (list) A0 c0 _   (Lib.hid (Cells.below M0.out HBwt_3.out)) N0 Q0 qt_8).mono ?_
    rintro e_t_8 wt_8 ⟨At_8, ct_8, rfl, ot_8, bt_8⟩
    have Dt_8_town_0 := Lib.hid (apart_callbox ot_8 ktown_0_0)
    have Ot_8 := Lib.hid (own_lower ot_8 HBwt_3.out.size)
    clear ot_8
    have HBwt_8 := Lib.hid (Below.step HBwt_3.out bt_8)
    replace ktown_0_0 := cell_below bt_8 ktown_0_0
    clear bt_8
    replace H := bind_hid H
    obtain ⟨t_10, qt_10, H⟩ := H
    go_wp2_with fail
    go_at_call 79
    refine (Go.Proofs.Ytgimcnpkngpmiaa.GxSlicesDeleteFuncLoopExampleG01062ImplPostmarkLoopExampleG01062ImplPostmarkiMarksOf1.C fuel (t_8) (town) At_8 ct_8 (w.heap.size) w.heap.size _   Ot_8 (Lib.hid (own_max Ot_8.out)) (Lib.hid ktown_0_0) (Lib.hid HBwt_8.out.size) (Lib.hid Dt_8_town_0.out) qt_10).mono ?_
    rintro e_t_10 wt_10 ⟨At_10, ct_10, rfl, ot_10, gt_10, yt_10⟩
    have Pt_10 := Lib.hid ot_10
    have Gt_10 := Lib.hid gt_10
    replace yt_10 := Lib.hid yt_10
    clear ot_10 gt_10
    have HBwt_10 := Lib.hid (HBwt_8.out.grown Gt_10.out HBwt_8.out.size (fun q hq => (Ot_8.out.lt q hq).1))
    have Dt_10_town_0 : Hid (Apart At_10 _) := Lib.hid (Go.Proofs.Ytgimcnpkngpmiaa.GoK.apart_from Dt_8_town_0.out (fun a_ ha_ => by cases ha_; exact cell_lt ktown_0_0) yt_10.out)
    replace ktown_0_0 := cell_other ktown_0_0 Gt_10.out Dt_8_town_0.out
    clear Ot_8 Gt_10 yt_10
    obtain rfl := ret_hid H
    go_wp2_with fail
    go_ret
    exact ⟨At_10, ct_10, rfl, Pt_10.out, HBwt_10.out⟩
end Go.Proofs.Ytgimcnpkngpmiaa.GiMarksOf

/- Chapter 11: postmarks: the plain functions of the program and of the reference agree, and the laws answer true. (Q11Marks) No condition but those of each theorem. -/
namespace Go.Proofs.Ytgimcnpkngpmiaa.Q11Marks
set_option linter.unusedVariables false
set_option linter.unusedSimpArgs false
open Go.RowKit
open Go.Proofs.Ytgimcnpkngpmiaa.GoP Go.Proofs.Ytgimcnpkngpmiaa.PlainStamp Go.Proofs.Ytgimcnpkngpmiaa.QBase Go.Proofs.Ytgimcnpkngpmiaa.QWord Go.Proofs.Ytgimcnpkngpmiaa.Q11Extend Go.Proofs.Ytgimcnpkngpmiaa.Q11Find Go.Proofs.Ytgimcnpkngpmiaa.QCount Go.Proofs.Ytgimcnpkngpmiaa.QOrd Go.Proofs.Ytgimcnpkngpmiaa.Q11List Go.Proofs.Ytgimcnpkngpmiaa.Q11Mark Go.Proofs.Ytgimcnpkngpmiaa.QUp Go.Proofs.Ytgimcnpkngpmiaa.QAll Go.Proofs.Ytgimcnpkngpmiaa.QLoop Go.Proofs.Ytgimcnpkngpmiaa.PPostmark

def ofT (town : ByteArray) (x : Postmark) : Bool := decide (x.town = town)
theorem not1_eq (x : Postmark) (town : ByteArray) : GiMarksOf1.P x town = some (!ofT town x) := by
  obtain ⟨a, b, c, d, e, g⟩ := x
  simp only [GiMarksOf1.P, unPostmark, letK, eq_list, ofT]
theorem filter_eq {l : List Postmark} (h12 : l.length ≤ 12) (town : ByteArray) (fuel : Nat) (hfu : 100 ≤ fuel) :
    GxSlicesDeleteFuncLoopExampleG01062ImplPostmarkLoopExampleG01062ImplPostmarkiMarksOf1.P fuel l town = some (l.filter (ofT town)) := by
  simp only [GxSlicesDeleteFuncLoopExampleG01062ImplPostmarkLoopExampleG01062ImplPostmarkiMarksOf1.P, GxSlicesIndexFuncLoopExampleG01062ImplPostmarkLoopExampleG01062ImplPostmarkiMarksOf1.P]
  rw [find_loop (p := fun x => !ofT town x) (yes := fun i => some (i : Int))]
  · cases hq : l.findIdx? fun x => !ofT town x with
    | none =>
      rw [List.findIdx?_eq_none_iff] at hq
      have hall : l.filter (ofT town) = l := List.filter_eq_self.2 (fun x hx => by have := hq x hx; simpa using this)
      simp [GxSlicesIndexFuncLoopExampleG01062ImplPostmarkLoopExampleG01062ImplPostmarkiMarksOf1.e0, letK, iteK_if, hall]
    | some q =>
      rw [List.findIdx?_eq_some_iff_getElem] at hq
      obtain ⟨hql, hqp, hqb⟩ := hq
      simp only [Option.bind_some, letK, iteK_if]
      rw [if_neg (by simp), wrap_in (by omega) (by omega)]
      refine lp_is (n := l.length) _ (fun k (s : List Postmark × Int × Int) => s.2.2 = (k : Int) ∧ s.1.length = l.length ∧ q < k ∧ s.2.1 = (((l.take k).filter (ofT town)).length : Int) ∧ ((l.take k).filter (ofT town)).length < k ∧ s.1.take ((l.take k).filter (ofT town)).length = (l.take k).filter (ofT town) ∧ ∀ j : Nat, k ≤ j → s.1[j]? = l[j]?) ?_ ?_ fuel (q + 1) _ (by omega) (by omega) ?_
      · rintro k ⟨s, i, j⟩ nx hk ⟨h1, h2, h3, h4, h5, h6, h7⟩ hn
        dsimp only at h1 h2 h4 h6 h7
        subst h1
        obtain ⟨x, hx, _⟩ := at_lt (l := l) (k := k) hk
        have hsx : s[k]? = some x := by rw [h7 k (Nat.le_refl _), hx]
        have hnt := not1_eq x town
        simp only [GxSlicesDeleteFuncLoopExampleG01062ImplPostmarkLoopExampleG01062ImplPostmarkiMarksOf1.l0, unp3, letK, iteK_if]
        rw [if_pos (by simp; omega)]
        simp only [idx_nat, hsx, Option.bind_some, unPostmark]
        rw [show GiMarksOf1.P (Postmark.mk x.id x.town x.kind_ x.first x.last x.lost) town = some (!ofT town x) from hnt]
        simp only [Option.bind_some, Bool.not_not, appK]
        cases ht : ofT town x with
        | true =>
          obtain ⟨y, hy, hyi⟩ := at_lt (l := s) (k := ((l.take k).filter (ofT town)).length) (by omega)
          rw [if_pos rfl, h4, hyi]
          simp only [Option.bind_some]
          rw [wrap_in (by omega) (by omega), wrap_in (by omega) (by omega)]
          have hf1 : (l.take (k + 1)).filter (ofT town) = (l.take k).filter (ofT town) ++ [x] := by rw [take_next hx, List.filter_append]; simp [List.filter, ht]
          refine hn _ ⟨by dsimp only; omega, by dsimp only; rw [List.length_set]; exact h2, by omega, by dsimp only; rw [hf1, List.length_append, List.length_singleton]; omega, by rw [hf1, List.length_append, List.length_singleton]; omega, ?_, ?_⟩
          · dsimp only
            rw [hf1, List.length_append, List.length_singleton, Int.toNat_natCast]
            rw [take_next (x := x) (by rw [List.getElem?_set_self (by omega)]), List.take_set_of_le (Nat.le_refl _), h6]
          · intro j hj
            dsimp only
            rw [Int.toNat_natCast, List.getElem?_set_ne (by omega)]
            exact h7 j (by omega)
        | false =>
          rw [if_neg (by simp), wrap_in (by omega) (by omega)]
          have hf1 : (l.take (k + 1)).filter (ofT town) = (l.take k).filter (ofT town) := by rw [take_next hx, List.filter_append]; simp [List.filter, ht]
          refine hn _ ⟨by dsimp only; omega, h2, by omega, by rw [hf1]; exact h4, by rw [hf1]; omega, by rw [hf1]; exact h6, fun j hj => h7 j (by omega)⟩
      · rintro ⟨s, i, j⟩ nx ⟨h1, h2, h3, h4, h5, h6, h7⟩
        dsimp only at h1 h2 h4 h6 h7
        rw [List.take_of_length_le (Nat.le_refl _)] at h4 h5 h6
        simp only [GxSlicesDeleteFuncLoopExampleG01062ImplPostmarkLoopExampleG01062ImplPostmarkiMarksOf1.l0, unp3, letK, iteK_if, h1, h2, appK, GxSlicesDeleteFuncLoopExampleG01062ImplPostmarkLoopExampleG01062ImplPostmarkiMarksOf1.e0, h4]
        rw [if_neg (by simp), guardK_pos (by omega), guardK_pos (by rw [List.length_append, List.length_take, List.length_replicate]; omega), Int.toNat_natCast]
        rw [List.take_append_of_le_length (by rw [List.length_take]; omega), List.take_take, Nat.min_self, h6]
      · refine ⟨by dsimp only; omega, rfl, by omega, ?_, ?_, ?_, fun j hj => rfl⟩
        all_goals
          have hpre : (l.take q).filter (ofT town) = l.take q := List.filter_eq_self.2 (fun x hx => by
            obtain ⟨i, hi⟩ := List.getElem?_of_mem hx
            obtain ⟨hi1, hi2⟩ := List.getElem?_eq_some_iff.1 hi
            rw [List.length_take] at hi1
            rw [List.getElem_take] at hi2
            have := hqb i (by omega)
            rw [hi2] at this
            simpa using this)
          have hat : l[q]? = some l[q] := List.getElem?_eq_getElem hql
          have hpre2 : (l.take (q + 1)).filter (ofT town) = l.take q := by
            rw [take_next hat, List.filter_append, hpre]
            have : ofT town l[q] = false := by simpa using hqp
            simp [List.filter, this]
        · dsimp only; rw [hpre2, List.length_take]; omega
        · rw [hpre2, List.length_take]; omega
        · dsimp only; rw [hpre2, List.length_take, Nat.min_eq_left (by omega)]
  · intro k nx x hx
    have hi : idx l (k : Int) = some x := by rw [idx_nat, hx]
    have hnt := not1_eq x town
    simp only [GxSlicesIndexFuncLoopExampleG01062ImplPostmarkLoopExampleG01062ImplPostmarkiMarksOf1.l0, hi, Option.bind_some, unPostmark]
    rw [show GiMarksOf1.P (Postmark.mk x.id x.town x.kind_ x.first x.last x.lost) town = some (!ofT town x) from hnt]
    simp only [Option.bind_some, appK, iteK_if]
def ofTown (l : List Postmark) (town : ByteArray) : List Postmark := if okPms l = true then l.filter (ofT town) else []
theorem ofTown_len (l : List Postmark) (town : ByteArray) : (ofTown l town).length ≤ 12 := by
  unfold ofTown
  split
  · rename_i hc
    have h12 : l.length ≤ 12 := upL_len hc
    have := List.length_filter_le (ofT town) l
    omega
  · simp
theorem ofTown_mem {l : List Postmark} {town : ByteArray} {x : Postmark} (h : x ∈ ofTown l town) : okPms l = true ∧ okPm x = true ∧ x ∈ l ∧ x.town = town := by
  unfold ofTown at h
  split at h
  · rename_i hc
    rw [List.mem_filter] at h
    refine ⟨hc, pms_mem hc h.1, h.1, ?_⟩
    have := h.2
    unfold ofT at this; simpa using this
  · simp at h
/-- of a town that is no word there is none -/
theorem ofTown_word {l : List Postmark} {town : ByteArray} (h : wordB town = false) : ofTown l town = [] := by
  rw [List.eq_nil_iff_forall_not_mem]
  intro x hx
  obtain ⟨_, h2, _, rfl⟩ := ofTown_mem hx
  have := (okPm_of h2).2.1
  rw [h] at this; exact absurd this (by simp)
theorem marksOf_eq (l : List Postmark) (hf : ∀ s ∈ l, s.fits) (town : ByteArray) (fuel : Nat) (hfu : 100 ≤ fuel) : GiMarksOf.P fuel l town = some (ofTown l town) := by
  simp only [GiMarksOf.P, arePostmarks_eq l hf, Option.bind_some, letK, iteK_if, ofTown]
  cases hc : okPms l with
  | false => simp
  | true =>
    have h12 : l.length ≤ 12 := upL_len hc
    simp [clone_eq (show l.length ≤ 1000000 by omega), filter_eq h12 town fuel hfu]
end Go.Proofs.Ytgimcnpkngpmiaa.Q11Marks

/- An append onto a row of its own as one step of a region that draws its order. No condition. -/
namespace Go.Proofs.Ytgimcnpkngpmiaa.GoH
set_option linter.unusedVariables false
theorem step_append_own {P : Program} {w : World} {ops : Array Oper} {o : Oper} {a : Act} {K : Act → World → Prop} {Q : Exit → Act → World → Prop} {E : Prop} (hgd : o.guard = none) (s x : Operand) (t : TypeId)
    (ho : o.op = .call { callee := .builtin .append, args := #[s, x], argTypes := #[t, t] })
    (base : Nat) (e : TypeId) (i : TypeInfo) (z : Value) (size bytes : Nat) (ht : P.underlying t = some (.slice e)) (hi : P.info? e = some i) (hz : i.zero = some z)
    (hsize : i.size = size) (hby : i.bytes = bytes) (hzs : z.cells.size = size) (hsz : 0 < size)
    (A : Option Addr) (c n : Nat) (xs : List Value) (hs : a.eval s = .slice A n c) (hown : w.ownsRow base e size (.slice A n c) n xs)
    (ad : Addr) (cc : Nat) (news : List Value) (hx : a.eval x = .slice (some ad) 1 cc) (hl : news.length = 1 * size) (hnews : ∀ j u, news[j]? = some u → w.cell? (ad.add j) = some u) (h1 : ∀ u ∈ news, u.oneCell' = true)
    (h63 : n + 1 ≤ maxLen) (hbytes : (n + 1) * bytes ≤ 140737488355328) (hbase : base ≤ w.heap.size)
    (h : ∀ v' w', w'.ownsRow base e size v' (n + 1) (xs ++ news) → w.grownBy w' (Value.slice A n c).ownBlock → (v'.ownBlock = (Value.slice A n c).ownBlock ∨ v'.ownBlock = some w.heap.size) → K (a.put o.dst v') w') :
    if Region.wanted o (yielded ops a.tmps) = true then Oper.wp P o a w K Q else E := by
  refine Go.step_append_lies w hgd s x t ho base e i z size bytes ht hi hz hsize hby hzs hsz (.slice A n c) n xs hs hown ad 1 cc news hx hl hnews h1 (by omega) h63 hbytes hbase w.heap.size rfl ?_
  intro g cap w' o1 g1 y1 _
  refine h _ w' o1 g1 ?_
  rcases y1 with y1 | y1
  · left; rw [y1]; rfl
  · right; rw [y1]; rfl
/-- append(a, b...) onto a row of its own as one step of such a region -/
theorem step_spread_own {P : Program} {w : World} {ops : Array Oper} {o : Oper} {a : Act} {K : Act → World → Prop} {Q : Exit → Act → World → Prop} {E : Prop} (hgd : o.guard = none) (s x : Operand) (t : TypeId)
    (ho : o.op = .call { callee := .builtin .append, args := #[s, x], argTypes := #[t, t] })
    (base : Nat) (e : TypeId) (i : TypeInfo) (z : Value) (size bytes : Nat) (ht : P.underlying t = some (.slice e)) (hi : P.info? e = some i) (hz : i.zero = some z)
    (hsize : i.size = size) (hby : i.bytes = bytes) (hzs : z.cells.size = size) (hsz : 0 < size)
    (A1 : Option Addr) (c1 n : Nat) (xs : List Value) (hs : a.eval s = .slice A1 n c1) (hown : w.ownsRow base e size (.slice A1 n c1) n xs)
    (A : Option Addr) (m c : Nat) (news : List Value) (hx : a.eval x = .slice A m c) (hN : Go.Proofs.Ytgimcnpkngpmiaa.GoM.Room A m c) (hc : Go.Proofs.Ytgimcnpkngpmiaa.Rowed.Cells w size A m news) (h1 : ∀ u ∈ news, u.oneCell' = true)
    (h63 : n + m ≤ maxLen) (hbytes : (n + m) * bytes ≤ 140737488355328) (hbase : base ≤ w.heap.size)
    (h : ∀ v' w', w'.ownsRow base e size v' (n + m) (xs ++ news) → w.grownBy w' (Value.slice A1 n c1).ownBlock → (v'.ownBlock = (Value.slice A1 n c1).ownBlock ∨ v'.ownBlock = some w.heap.size) → K (a.put o.dst v') w') :
    if Region.wanted o (yielded ops a.tmps) = true then Oper.wp P o a w K Q else E := by
  have hw : Region.wanted o (yielded ops a.tmps) = true := by simp [Region.wanted, hgd]
  rw [if_pos hw]
  obtain ⟨v', w', hr, h2, h3, h5⟩ : ∃ v' w', (Builtin.append_ #[t, t] o.type #[.slice A1 n c1, .slice A m c]).run P w = .ok v' w' ∧ w'.ownsRow base e size v' (n + m) (xs ++ news) ∧ w.grownBy w' (Value.slice A1 n c1).ownBlock ∧ (v'.ownBlock = (Value.slice A1 n c1).ownBlock ∨ v'.ownBlock = some w.heap.size) := by
    cases A with
    | some ad =>
      obtain ⟨v', w', hr, h2, h3, _, h5⟩ := run_append_own_at (P := P) w base t o.type e i z size bytes ht hi hz hsize hby hzs hsz (.slice A1 n c1) n xs hown ad m c news hc.1 (fun j u hu => by
        obtain ⟨ad', e', hcell⟩ := hc.2 (by have := (List.getElem?_eq_some_iff.1 hu).1; omega)
        obtain rfl : ad = ad' := Option.some.inj e'
        exact hcell j u hu) h1 h63 hbytes hbase
      exact ⟨v', w', hr, h2, h3, h5⟩
    | none =>
      have hm : m = 0 := by
        cases news with
        | nil =>
          have h0 : ([] : List Value).length = m * size := hc.1
          rw [List.length_nil] at h0
          rcases Nat.mul_eq_zero.1 h0.symm with h1 | h1 <;> omega
        | cons y l => obtain ⟨ad, e', _⟩ := hc.2 (by simp); simp at e'
      obtain rfl : c = 0 := hN.2 rfl
      subst hm
      have hn : news = [] := List.eq_nil_of_length_eq_zero (by have := hc.1; simpa using this)
      subst hn
      exact ⟨_, w, run_append_owned_none (P := P) w base t o.type e i size ht hi (.slice A1 n c1) n xs hown, by simpa using hown, World.grownBy.refl w _, .inl rfl⟩
  unfold Oper.wp execOp
  simp only [ho, resolve, invoke, builtin, Sem.run_bind, Sem.run_pure, Result.andThen_ok, List.map_toArray, List.map_cons, List.map_nil, hs, hx, hr]
  exact h v' w' h2 h3 h5
end Go.Proofs.Ytgimcnpkngpmiaa.GoH

