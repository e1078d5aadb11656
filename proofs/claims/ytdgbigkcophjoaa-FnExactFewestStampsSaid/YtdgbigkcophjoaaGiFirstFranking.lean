/- loop.example/g01062/impl.firstFranking as a plain function, and the contract of the program's: where the plain one has an answer, the program has it. Conditions: slices read as lists. -/
import Derived.Test.YtdgbigkcophjoaaChecked
import Derived.Test.YtdgbigkcophjoaaGoM
import Derived.Test.YtdgbigkcophjoaaGoRStamp
import Derived.Test.YtdgbigkcophjoaaHelpInt
import Derived.Test.YtdgbigkcophjoaaHelpStamp
import Derived.Test.YtdgbigkcophjoaaGxSlicesIndexFuncLoopExampleG01062ImplStampLoopExampleG01062ImplStampiFirstFranking1
import Derived.WalkKit
import Derived.WalkSpells
import Derived.WalkLawsBesides
import Derived.BigQuiet
import Derived.OwnWalk
import Derived.Deep.LoopGhost
import Derived.Deep.QuietTactic
import Derived.IntWalk
import Derived.Lib.QuietBelow
import Derived.StillTailTactics
namespace Go.Proofs.Ytdgbigkcophjoaa.GiFirstFranking
set_option linter.unusedVariables false
set_option linter.unusedSimpArgs false
open Go.RowKit
open Go.Proofs.Ytdgbigkcophjoaa.Rowed Go.Proofs.Ytdgbigkcophjoaa.Turn Go.Proofs.Ytdgbigkcophjoaa.Aid Go.Proofs.Ytdgbigkcophjoaa.GoP Go.Proofs.Ytdgbigkcophjoaa.GoM

def l0 (list : (List Go.Proofs.Ytdgbigkcophjoaa.PlainStamp.St)) (year : Int) (fewest : (List Int)) (s : (List Int) × Int) (nx0 bk0 : (List Int) × Int → Option ((List Int))) : Option ((List Int)) :=
  unp2 s fun franking_9l0 value_2_c0l0 =>
  letK (decide (0 < value_2_c0l0)) fun (t_7 : Bool) =>
  iteK t_7
  (Option.bind (Go.Proofs.Ytdgbigkcophjoaa.GxSlicesIndexFuncLoopExampleG01062ImplStampLoopExampleG01062ImplStampiFirstFranking1.P list year value_2_c0l0 fewest) fun (t_10 : Int) =>
  guardK (franking_9l0.length ≤ 1099511627776) <|
  letK (franking_9l0 ++ [t_10]) fun (t_15 : (List Int)) =>
  Option.bind (idx list t_10) fun (yt_20 : Go.Proofs.Ytdgbigkcophjoaa.PlainStamp.St) =>
  unStamp yt_20 fun (t_20_id : Int) (t_20_face : Int) (t_20_color : Int) (t_20_year : Int) =>
  letK (IntKind.i64.wrap (value_2_c0l0 - t_20_face)) fun (t_23 : Int) =>
  appK nx0 (t_15, t_23))
  (appK bk0 (franking_9l0, value_2_c0l0))

def e0  (s : (List Int) × Int) : Option ((List Int)) :=
  unp2 s fun franking_9l0 value_2_c0l0 =>
  some franking_9l0

def P (fuel : Nat) (list : (List Go.Proofs.Ytdgbigkcophjoaa.PlainStamp.St)) (year : Int) (fewest : (List Int)) (value : Int) : Option ((List Int)) :=
  loopK (l0 list year fewest) fuel (([] : List Int), value) (e0 )

set_option maxRecDepth 100000 in
set_option maxHeartbeats 2000000 in
theorem C (fuel : Nat) (list : (List Go.Proofs.Ytdgbigkcophjoaa.PlainStamp.St)) (year : Int) (fewest : (List Int)) (value : Int) (A0 : Option Addr) (c0 : Nat) (A2 : Option Addr) (c2 : Nat)  (w : World) (M0 : Hid (Cells w 4 A0 list.length (Go.Proofs.Ytdgbigkcophjoaa.PlainStamp.flat list))) (N0 : Hid (list.length ≤ 9223372036854775807)) (M2 : Hid (Cells w 1 A2 fewest.length (Go.Proofs.Ytdgbigkcophjoaa.HelpInt.iv fewest))) (N2 : Hid (fewest.length ≤ 9223372036854775807))  {r : (List Int)} (H : Hid (P fuel list year fewest value = some r)) :
    Calls Try.prog 73 #[.slice A0 list.length c0, .int .i64 year, .slice A2 fewest.length c2, .int .i64 value] w (fun e w' => ∃ A_r c_r, e = .returned (.slice A_r r.length c_r) ∧ w'.ownsRow w.heap.size 3 1 (.slice A_r r.length c_r) r.length (Go.Proofs.Ytdgbigkcophjoaa.HelpInt.iv r) ∧ Below w.heap.size w w') := by
  have HB := Lib.hid (Below.refl w.heap.size w)
  unfold P at H
  have N0o := N0.out
  have N2o := N2.out
  obtain ⟨i0_3, hi_3, hz0_3, hz1_3, hz2_3⟩ := Aid.info_parts (P := Try.prog) (T := 3) (z := .int .i64 0) (s := 1) (b := 8) (by kernel_rfl)
  go_enter Try.func73, Try.ntmps73
  obtain ⟨w_year_0, hw_year_0⟩ : ∃ x, w.alloc (.cells #[.int .i64 year] 3) = x := ⟨_, rfl⟩
  have bw_year_0 : Below w.heap.size w w_year_0 := by rw [← hw_year_0]; exact (Below.refl _ _).alloc (Nat.le_refl _) _
  have HBw_year_0 := Lib.hid (Below.step HB.out bw_year_0)
  clear bw_year_0
  have kyear_0_0 : w_year_0.cell? ⟨w.heap.size, 0, none⟩ = some (.int .i64 year) := by rw [← hw_year_0]; exact box_new _ _ _ 0 _ rfl
  obtain ⟨w_fewest_1, hw_fewest_1⟩ : ∃ x, w_year_0.alloc (.cells #[.slice A2 fewest.length c2] 29) = x := ⟨_, rfl⟩
  have bw_fewest_1 : Below w_year_0.heap.size w_year_0 w_fewest_1 := by rw [← hw_fewest_1]; exact (Below.refl _ _).alloc (Nat.le_refl _) _
  have HBw_fewest_1 := Lib.hid (Below.step HBw_year_0.out bw_fewest_1)
  have kyear_0_0__126 := cell_below bw_fewest_1 kyear_0_0
  clear bw_fewest_1
  have kfewest_1_0 : w_fewest_1.cell? ⟨w_year_0.heap.size, 0, none⟩ = some (.slice A2 fewest.length c2) := by rw [← hw_fewest_1]; exact box_new _ _ _ 0 _ rfl
  obtain ⟨w_value_2, hw_value_2⟩ : ∃ x, w_fewest_1.alloc (.cells #[.int .i64 value] 3) = x := ⟨_, rfl⟩
  have bw_value_2 : Below w_fewest_1.heap.size w_fewest_1 w_value_2 := by rw [← hw_value_2]; exact (Below.refl _ _).alloc (Nat.le_refl _) _
  have Dvalue_2_year_0 := Lib.hid (apart_box kyear_0_0__126)
  have Dvalue_2_fewest_1 := Lib.hid (apart_box kfewest_1_0)
  have HBw_value_2 := Lib.hid (Below.step HBw_fewest_1.out bw_value_2)
  have kyear_0_0__127 := cell_below bw_value_2 kyear_0_0__126
  have kfewest_1_0__128 := cell_below bw_value_2 kfewest_1_0
  clear bw_value_2
  have kvalue_2_0 : w_value_2.cell? ⟨w_fewest_1.heap.size, 0, none⟩ = some (.int .i64 value) := by rw [← hw_value_2]; exact box_new _ _ _ 0 _ rfl
  have Ovalue_2 : Hid (w_value_2.ownsRow w.heap.size 3 1 (.slice (some ⟨w_fewest_1.heap.size, 0, none⟩) 1 1) 1 [.int .i64 value]) := Lib.hid (by rw [← hw_value_2]; exact own_laid (n := 1) HBw_fewest_1.out.size rfl rfl (by unfold maxLen; omega))
  obtain ⟨w_t_4, hw_t_4⟩ : ∃ x, w_value_2.alloc (.cells #[] 3) = x := ⟨_, rfl⟩
  have bw_t_4 : Below w_value_2.heap.size w_value_2 w_t_4 := by rw [← hw_t_4]; exact (Below.refl _ _).alloc (Nat.le_refl _) _
  have Ot_4 : Hid (w_t_4.ownsRow w.heap.size 3 1 (.slice (some ⟨w_value_2.heap.size, 0, none⟩) 0 0) 0 []) := Lib.hid (by rw [← hw_t_4]; exact own_empty HBw_value_2.out.size)
  have Dt_4_year_0 := Lib.hid (apart_box kyear_0_0__127)
  have Dt_4_fewest_1 := Lib.hid (apart_box kfewest_1_0__128)
  have Dt_4_value_2 := Lib.hid (apart_box kvalue_2_0)
  have HBw_t_4 := Lib.hid (Below.step HBw_value_2.out bw_t_4)
  have kyear_0_0__129 := cell_below bw_t_4 kyear_0_0__127
  have kfewest_1_0__130 := cell_below bw_t_4 kfewest_1_0__128
  have kvalue_2_0__131 := cell_below bw_t_4 kvalue_2_0
  replace Ovalue_2 := Lib.hid (own_below Ovalue_2.out bw_t_4)
  clear bw_t_4
  go_wp2_with fail
  clear kyear_0_0 kyear_0_0__126 kfewest_1_0 kyear_0_0__127 kfewest_1_0__128 kvalue_2_0
  go_loopg [9] (fuel) (fun m_ v9_ wr => ∃ (franking_9l0 : (List Int)) (value_2_c0l0 : Int) (Afranking_9l0 : Option Addr) (cfranking_9l0 : Nat), v9_ = .slice Afranking_9l0 franking_9l0.length cfranking_9l0 ∧ Hid (loopK (l0 list year fewest) m_ (franking_9l0, value_2_c0l0) (e0 ) = some r) ∧ Hid (Below w.heap.size w wr) ∧ wr.cell? ⟨w.heap.size, 0, none⟩ = some (.int .i64 year) ∧ wr.cell? ⟨w_year_0.heap.size, 0, none⟩ = some (.slice A2 fewest.length c2) ∧ wr.cell? ⟨w_fewest_1.heap.size, 0, none⟩ = some (.int .i64 value_2_c0l0) ∧ Hid (wr.ownsRow w.heap.size 3 1 (.slice (some ⟨w_fewest_1.heap.size, 0, none⟩) 1 1) 1 [.int .i64 value_2_c0l0]) ∧ Hid (wr.ownsRow w.heap.size 3 1 (.slice Afranking_9l0 franking_9l0.length cfranking_9l0) franking_9l0.length (Go.Proofs.Ytdgbigkcophjoaa.HelpInt.iv franking_9l0)) ∧ Hid (Apart Afranking_9l0 (some ⟨w.heap.size, 0, none⟩)) ∧ Hid (Apart Afranking_9l0 (some ⟨w_year_0.heap.size, 0, none⟩)) ∧ Hid (Apart Afranking_9l0 (some ⟨w_fewest_1.heap.size, 0, none⟩)))
  case atStart => exact ⟨_, _, _, _, rfl, H, HBw_t_4, kyear_0_0__129, kfewest_1_0__130, kvalue_2_0__131, Ovalue_2, Ot_4, Lib.hid Dt_4_year_0.out, Lib.hid Dt_4_fewest_1.out, Lib.hid Dt_4_value_2.out⟩
  case round =>
    obtain ⟨franking_9l0, value_2_c0l0, Afranking_9l0, cfranking_9l0, rfl, H, HBwr0, kyear_0_0__129, kfewest_1_0__130, kvalue_2_0__131, Ovalue_2, Ofranking_9l0, Dfranking_9l0_year_0, Dfranking_9l0_fewest_1, Dfranking_9l0_value_2⟩ := hrel
    rename World => wr0
    cases gk with
    | zero => exact (loop_zero H).elim
    | succ m0 =>
      replace H := loop_succ H
      unfold l0 at H
      replace H := unp2_hid H
      replace H := let_hid H
      obtain ⟨t_7, ht_7, H⟩ := H
      cases t_7 with
      | false =>
        replace H := ite_f H
        replace H := app_hid H
        unfold e0 at H
        replace H := unp2_hid H
        obtain rfl := ret_hid H
        go_wp2_with fail
        go_ret
        exact ⟨Afranking_9l0, cfranking_9l0, rfl, Ofranking_9l0.out, HBwr0.out⟩
      | true =>
        replace H := ite_t H
        replace H := bind_hid H
        obtain ⟨t_10, qt_10, H⟩ := H
        go_wp2_with fail
        go_at_call 107
        refine (Go.Proofs.Ytdgbigkcophjoaa.GxSlicesIndexFuncLoopExampleG01062ImplStampLoopExampleG01062ImplStampiFirstFranking1.C (list) (year) (value_2_c0l0) (fewest) A0 c0 A2 c2 (w.heap.size) (w_fewest_1.heap.size) (w_year_0.heap.size) _   (Lib.hid (Cells.below M0.out HBwr0.out)) N0 (Lib.hid (Cells.below M2.out HBwr0.out)) N2 (Lib.hid kyear_0_0__129) (Lib.hid kvalue_2_0__131) (Lib.hid kfewest_1_0__130) qt_10).mono ?_
        rintro e_t_10 wt_10 ⟨rfl, bt_10⟩
        have HBwt_10 := Lib.hid (Below.step HBwr0.out bt_10)
        replace kyear_0_0__129 := cell_below bt_10 kyear_0_0__129
        replace kfewest_1_0__130 := cell_below bt_10 kfewest_1_0__130
        replace kvalue_2_0__131 := cell_below bt_10 kvalue_2_0__131
        replace Ofranking_9l0 := Lib.hid (own_below Ofranking_9l0.out bt_10)
        replace Ovalue_2 := Lib.hid (own_below Ovalue_2.out bt_10)
        clear bt_10
        obtain ⟨w_t_14, hw_t_14⟩ : ∃ x, wt_10.alloc (.cells #[.int .i64 t_10] 3) = x := ⟨_, rfl⟩
        have bw_t_14 : Below wt_10.heap.size wt_10 w_t_14 := by rw [← hw_t_14]; exact (Below.refl _ _).alloc (Nat.le_refl _) _
        have HBw_t_14 := Lib.hid (Below.step HBwt_10.out bw_t_14)
        have kyear_0_0__132 := cell_below bw_t_14 kyear_0_0__129
        have kfewest_1_0__133 := cell_below bw_t_14 kfewest_1_0__130
        have kvalue_2_0__134 := cell_below bw_t_14 kvalue_2_0__131
        replace Ofranking_9l0 := Lib.hid (own_below Ofranking_9l0.out bw_t_14)
        replace Ovalue_2 := Lib.hid (own_below Ovalue_2.out bw_t_14)
        clear bw_t_14
        replace H := guard_hid H
        obtain ⟨hlt_15, H⟩ := H
        replace H := let_hid H
        obtain ⟨t_15, ht_15, H⟩ := H
        have hht_15 := Lib.hid ht_15
        clear ht_15
        have hst_15 := HBw_t_14.out.size
        go_wp2_with (at_builtin; refine wpList_append_own_at _ rfl _ _ 29 rfl w.heap.size 3 i0_3 (.int .i64 0) 1 8 Try.underlying29 hi_3 hz0_3 hz1_3 hz2_3 rfl (by decide) _ _ _ rfl Ofranking_9l0.out ⟨wt_10.heap.size, 0, none⟩ 1 1 [.int .i64 t_10] rfl rfl (news_new hw_t_14) (one_cells rfl) (by unfold maxLen; omega) (by omega) hst_15 ?_; intro vt_15 wt_15 ot_15 gt_15 zt_15 yt_15; clear zt_15; obtain ⟨qt_15, ct_15, rfl, pt_15⟩ := own_push hht_15.out (Go.Proofs.Ytdgbigkcophjoaa.HelpInt.iv_snoc _ _) rfl ot_15; have Pt_15 := Lib.hid pt_15; have Yt_15 := Lib.hid yt_15; have Gt_15 := Lib.hid gt_15; clear ot_15 gt_15 pt_15 yt_15; refine stop_in ?_)
        refine stop_out ?_
        have HBwt_15 := Lib.hid (HBw_t_14.out.grown Gt_15.out hst_15 (fun q hq => (Ofranking_9l0.out.lt q hq).1))
        clear hst_15
        have Dt_15_year_0 : Hid (Apart (some ⟨qt_15, 0, none⟩) _) := Lib.hid (apart_app Dfranking_9l0_year_0.out (fun a_ ha_ => by cases ha_; exact cell_lt kyear_0_0__132) Yt_15.out)
        have Dt_15_fewest_1 : Hid (Apart (some ⟨qt_15, 0, none⟩) _) := Lib.hid (apart_app Dfranking_9l0_fewest_1.out (fun a_ ha_ => by cases ha_; exact cell_lt kfewest_1_0__133) Yt_15.out)
        have Dt_15_value_2 : Hid (Apart (some ⟨qt_15, 0, none⟩) _) := Lib.hid (apart_app Dfranking_9l0_value_2.out (fun a_ ha_ => by cases ha_; exact cell_lt kvalue_2_0__134) Yt_15.out)
        replace kyear_0_0__132 := cell_other kyear_0_0__132 Gt_15.out Dfranking_9l0_year_0.out
        replace kfewest_1_0__133 := cell_other kfewest_1_0__133 Gt_15.out Dfranking_9l0_fewest_1.out
        replace kvalue_2_0__134 := cell_other kvalue_2_0__134 Gt_15.out Dfranking_9l0_value_2.out
        replace Ovalue_2 := Lib.hid (own_other Ovalue_2.out Gt_15.out Dfranking_9l0_value_2.out)
        clear kyear_0_0__129 kfewest_1_0__130 kvalue_2_0__131
        clear Ofranking_9l0 Yt_15 Gt_15
        go_wp2_with fail
        obtain ⟨Z5, hZ5⟩ : ∃ x, wt_15.drew = x := ⟨_, rfl⟩
        have bd5 : Below wt_15.heap.size wt_15 Z5 := by rw [← hZ5]; exact (Below.refl _ _).drew
        have HBZ5 := Lib.hid (Below.step HBwt_15.out bd5)
        replace kyear_0_0__132 := cell_below bd5 kyear_0_0__132
        replace kfewest_1_0__133 := cell_below bd5 kfewest_1_0__133
        replace kvalue_2_0__134 := cell_below bd5 kvalue_2_0__134
        replace Pt_15 := Lib.hid (own_below Pt_15.out bd5)
        replace Ovalue_2 := Lib.hid (own_below Ovalue_2.out bd5)
        clear bd5
        replace H := idx_hid H
        obtain ⟨nt_20, yt_20, et_20, lt_20, gt_20, H⟩ := H
        subst et_20
        obtain ⟨t_20_id, t_20_face, t_20_color, t_20_year⟩ := yt_20
        replace H := unStamp_hid H
        obtain ⟨ab_t_20, ao_t_20, zt_20, At_20, z_t_20, ct_20_0, ct_20_1, ct_20_2, ct_20_3⟩ := Go.Proofs.Ytdgbigkcophjoaa.HelpStamp.Sts.at_ M0.out lt_20
        obtain rfl := Option.some.inj (gt_20.out.symm.trans z_t_20)
        subst At_20
        have ltt_20 := cell_lt ct_20_0
        replace ct_20_0 := cell_below HBZ5.out ct_20_0
        replace ct_20_1 := cell_below HBZ5.out ct_20_1
        replace ct_20_2 := cell_below HBZ5.out ct_20_2
        replace ct_20_3 := cell_below HBZ5.out ct_20_3
        clear z_t_20
        have b0t_20 : (0 : Int) ≤ (nt_20 : Int) := by omega
        have b1t_20 : (nt_20 : Int) < ((list.length : Nat) : Int) := by omega
        have b2t_20 : ((nt_20 : Int)).toNat = nt_20 := by omega
        replace H := let_hid H
        obtain ⟨t_23, ht_23, H⟩ := H
        refine wp_region_still_tail 7 (by kernel_rfl) (by kernel_rfl) ?_
        simp only [List.take_succ_cons, List.take_zero, List.drop_succ_cons, List.drop_zero]
        change wpStill _ _ wt_15.drew _ _ _
        rw [hZ5]
        repeat still_step
        refine wpStill_nil ?_
        change wpList _ _ _ _ _ wt_15.drew
        rw [hZ5]
        clear hZ5
        obtain ⟨wb24_24, hwb24_24⟩ : ∃ x, (Z5).setCell ⟨w_fewest_1.heap.size, 0, none⟩ (.int .i64 t_23) = x := ⟨_, rfl⟩
        have z0b24_24 := Ovalue_2.out.frozenAt 0
        have Sb24_24 := Lib.hid (own_stores [(0, .int .i64 t_23)] Ovalue_2.out)
        have Pb24_24 : Hid (wb24_24.ownsRow w.heap.size 3 1 (.slice (some ⟨w_fewest_1.heap.size, 0, none⟩) 1 1) 1 [.int .i64 t_23]) := Lib.hid (by rw [← hwb24_24]; exact Sb24_24.out.1)
        have Gb24_24 : Hid (Z5.grownBy wb24_24 (Value.slice (some ⟨w_fewest_1.heap.size, 0, none⟩) 1 1).ownBlock) := Lib.hid (by rw [← hwb24_24]; exact Sb24_24.out.2)
        have HBwb24_24 := Lib.hid (HBZ5.out.grown Gb24_24.out HBZ5.out.size (fun q hq => (Ovalue_2.out.lt q hq).1))
        clear Sb24_24
        have kyear_0_0__135 := cell_other kyear_0_0__132 Gb24_24.out Dvalue_2_year_0.out
        have kfewest_1_0__136 := cell_other kfewest_1_0__133 Gb24_24.out Dvalue_2_fewest_1.out
        have ct_20_0__137 := cell_other ct_20_0 Gb24_24.out (apart_old Ovalue_2.out ltt_20)
        have ct_20_1__138 := cell_other ct_20_1 Gb24_24.out (apart_old Ovalue_2.out ltt_20)
        have ct_20_2__139 := cell_other ct_20_2 Gb24_24.out (apart_old Ovalue_2.out ltt_20)
        have ct_20_3__140 := cell_other ct_20_3 Gb24_24.out (apart_old Ovalue_2.out ltt_20)
        replace Pt_15 := Lib.hid (own_other Pt_15.out Gb24_24.out (Apart.symm Dt_15_value_2.out))
        clear Ovalue_2 Gb24_24
        have kvalue_2_0__141 : wb24_24.cell? ⟨w_fewest_1.heap.size, 0, none⟩ = some (.int .i64 t_23) := Pb24_24.out.cells rfl 0 _ rfl
        replace H := app_hid H
        go_wp2_with fail
        clear z0b24_24 kyear_0_0__132 kfewest_1_0__133 ct_20_0 ct_20_1 ct_20_2 ct_20_3 kvalue_2_0__134
        go_roundg m0
        case measure => omega
        case rel => exact ⟨_, _, _, _, rfl, H, HBwb24_24, kyear_0_0__135, kfewest_1_0__136, kvalue_2_0__141, Pb24_24, Pt_15, Lib.hid Dt_15_year_0.out, Lib.hid Dt_15_fewest_1.out, Lib.hid Dt_15_value_2.out⟩
end Go.Proofs.Ytdgbigkcophjoaa.GiFirstFranking
