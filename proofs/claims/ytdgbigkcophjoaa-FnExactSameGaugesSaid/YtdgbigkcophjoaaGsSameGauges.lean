/- loop.example/g01062/spec.SameGauges as a plain function, and the contract of the program's: where the plain one has an answer, the program has it. Conditions: slices read as lists. -/
import Derived.Test.YtdgbigkcophjoaaChecked
import Derived.Test.YtdgbigkcophjoaaGoM
import Derived.Test.YtdgbigkcophjoaaGoRComb
import Derived.Test.YtdgbigkcophjoaaGoN
import Derived.Test.YtdgbigkcophjoaaHelpInt
import Derived.Test.YtdgbigkcophjoaaOComb
import Derived.Test.YtdgbigkcophjoaaGsL5Good
import Derived.WalkKit
import Derived.WalkSpells
import Derived.WalkLawsBesides
import Derived.BigQuiet
import Derived.OwnWalk
import Derived.Deep.LoopGhost
import Derived.Deep.QuietTactic
import Derived.IntWalk
import Derived.Lib.QuietBelow
namespace Go.Proofs.Ytdgbigkcophjoaa.GsSameGauges
set_option linter.unusedVariables false
set_option linter.unusedSimpArgs false
open Go.RowKit
open Go.Proofs.Ytdgbigkcophjoaa.Rowed Go.Proofs.Ytdgbigkcophjoaa.Turn Go.Proofs.Ytdgbigkcophjoaa.Aid Go.Proofs.Ytdgbigkcophjoaa.GoP Go.Proofs.Ytdgbigkcophjoaa.GoM

def l1 (list : (List Go.Proofs.Ytdgbigkcophjoaa.PComb.Comb)) (k0 : Nat) (k1 : Nat) (s : (List Int) × Bool) (nx1 bk1 : (List Int) × Bool → Option ((List (List Int)) × Bool)) : Option ((List (List Int)) × Bool) :=
  unp2 s fun ids_6l1 first_7l1 =>
  Option.bind (idx list (k1 : Int)) fun (yt_25 : Go.Proofs.Ytdgbigkcophjoaa.PComb.Comb) =>
  unComb yt_25 fun (t_25_id : Int) (t_25_wide : Int) (t_25_high : Int) (t_25_line : Bool) =>
  Option.bind (idx list (k0 : Int)) fun (yt_30 : Go.Proofs.Ytdgbigkcophjoaa.PComb.Comb) =>
  unComb yt_30 fun (t_30_id : Int) (t_30_wide : Int) (t_30_high : Int) (t_30_line : Bool) =>
  letK (t_25_wide == t_30_wide) fun (t_33 : Bool) =>
  joinK (fun (t_46 : Bool) =>
  iteK t_46
  (Option.bind (idx list (k1 : Int)) fun (yt_50 : Go.Proofs.Ytdgbigkcophjoaa.PComb.Comb) =>
  unComb yt_50 fun (t_50_id : Int) (t_50_wide : Int) (t_50_high : Int) (t_50_line : Bool) =>
  guardK (ids_6l1.length ≤ 1099511627776) <|
  letK (ids_6l1 ++ [t_50_id]) fun (t_54 : (List Int)) =>
  joinK (fun (t_61 : Bool) =>
  appK nx1 (t_54, t_61)) fun jt_61 => iteK first_7l1 (letK (decide ((k0 : Int) ≤ (k1 : Int))) fun (t_60 : Bool) =>
  appK jt_61 t_60) (appK jt_61 false))
  (appK nx1 (ids_6l1, first_7l1))) fun jt_46 => iteK t_33 (Option.bind (idx list (k1 : Int)) fun (yt_37 : Go.Proofs.Ytdgbigkcophjoaa.PComb.Comb) =>
  unComb yt_37 fun (t_37_id : Int) (t_37_wide : Int) (t_37_high : Int) (t_37_line : Bool) =>
  Option.bind (idx list (k0 : Int)) fun (yt_42 : Go.Proofs.Ytdgbigkcophjoaa.PComb.Comb) =>
  unComb yt_42 fun (t_42_id : Int) (t_42_wide : Int) (t_42_high : Int) (t_42_line : Bool) =>
  letK (t_37_high == t_42_high) fun (t_45 : Bool) =>
  appK jt_46 t_45) (appK jt_46 false)

def e1 (nx0 : ((List (List Int))) → Option ((List (List Int)) × Bool)) (out_4l0 : (List (List Int))) (s : (List Int) × Bool) : Option ((List (List Int)) × Bool) :=
  unp2 s fun ids_6l1 first_7l1 =>
  iteK first_7l1
  (guardK (out_4l0.length ≤ 1099511627776) <|
  letK (out_4l0 ++ [ids_6l1]) fun (t_70 : (List (List Int))) =>
  appK nx0 (t_70))
  (appK nx0 (out_4l0))

def l0 (list : (List Go.Proofs.Ytdgbigkcophjoaa.PComb.Comb)) (k0 : Nat) (s : (List (List Int))) (nx0 bk0 : (List (List Int)) → Option ((List (List Int)) × Bool)) : Option ((List (List Int)) × Bool) :=
  letK s fun out_4l0 =>
  cntK (l1 list k0) (list.length) 0 (([] : List Int), true) (e1 nx0 out_4l0)

def e0  (s : (List (List Int))) : Option ((List (List Int)) × Bool) :=
  letK s fun out_4l0 =>
  some (out_4l0, true)

def P (list : (List Go.Proofs.Ytdgbigkcophjoaa.PComb.Comb)) : Option ((List (List Int)) × Bool) :=
  Option.bind (Go.Proofs.Ytdgbigkcophjoaa.GsL5Good.P list) fun (t_5 : Bool) =>
  letK (!t_5) fun (t_6 : Bool) =>
  iteK t_6
  (some (([] : List (List Int)), false))
  (cntK (l0 list) (list.length) 0 (([] : List (List Int))) (e0 ))

set_option maxRecDepth 100000 in
set_option maxHeartbeats 2000000 in
theorem C (list : (List Go.Proofs.Ytdgbigkcophjoaa.PComb.Comb)) (A0 : Option Addr) (c0 : Nat)  (w : World) (M0 : Hid (Cells w 4 A0 list.length (Go.Proofs.Ytdgbigkcophjoaa.PComb.flat list))) (N0 : Hid (list.length ≤ 9223372036854775807))  {r0 : (List (List Int))} {r1 : Bool} (H : Hid (P list = some (r0, r1))) :
    Calls Try.prog 56 #[.slice A0 list.length c0] w (fun e w' => ∃ A_r0 c_r0, e = .returned (.tuple #[.slice A_r0 r0.length c_r0, .bool r1]) ∧ (∃ B_, Go.Proofs.Ytdgbigkcophjoaa.GoN.OwnNest w' (w.heap.size) 29 3 1 Go.Proofs.Ytdgbigkcophjoaa.HelpInt.iv A_r0 c_r0 r0 B_) ∧ Below w.heap.size w w') := by
  have HB := Lib.hid (Below.refl w.heap.size w)
  unfold P at H
  have N0o := N0.out
  obtain ⟨i0_29, hi_29, hz0_29, hz1_29, hz2_29⟩ := Aid.info_parts (P := Try.prog) (T := 29) (z := .slice none 0 0) (s := 1) (b := 24) (by kernel_rfl)
  obtain ⟨i0_3, hi_3, hz0_3, hz1_3, hz2_3⟩ := Aid.info_parts (P := Try.prog) (T := 3) (z := .int .i64 0) (s := 1) (b := 8) (by kernel_rfl)
  go_enter Try.func56, Try.ntmps56
  obtain ⟨w_t_2, hw_t_2⟩ : ∃ x, w.alloc (.cells #[] 29) = x := ⟨_, rfl⟩
  have bw_t_2 : Below w.heap.size w w_t_2 := by rw [← hw_t_2]; exact (Below.refl _ _).alloc (Nat.le_refl _) _
  have Ot_2 : Hid (Go.Proofs.Ytdgbigkcophjoaa.GoN.OwnNest w_t_2 (w.heap.size) 29 3 1 Go.Proofs.Ytdgbigkcophjoaa.HelpInt.iv (some ⟨w.heap.size, 0, none⟩) 0 ([] : List (List Int)) [some ⟨w.heap.size, 0, none⟩]) := Lib.hid (by rw [← hw_t_2]; exact Go.Proofs.Ytdgbigkcophjoaa.GoN.nest_empty HB.out.size)
  have HBw_t_2 := Lib.hid (Below.step HB.out bw_t_2)
  clear bw_t_2
  replace H := bind_hid H
  obtain ⟨t_5, qt_5, H⟩ := H
  go_wp2_with fail
  go_at_call 90
  refine (Go.Proofs.Ytdgbigkcophjoaa.GsL5Good.C (list) A0 c0 _   (Lib.hid (Cells.below M0.out HBw_t_2.out)) N0 qt_5).mono ?_
  rintro e_t_5 wt_5 ⟨rfl, bt_5⟩
  have HBwt_5 := Lib.hid (Below.step HBw_t_2.out bt_5)
  replace Ot_2 := Lib.hid (Go.Proofs.Ytdgbigkcophjoaa.GoN.nest_below Ot_2.out bt_5)
  clear bt_5
  cases t_5 with
  | false =>
    replace H := let_hid H
    obtain ⟨t_6, ht_6, H⟩ := H
    obtain rfl : t_6 = true := ht_6.symm
    replace H := ite_t H
    cases ret_hid H
    go_wp2_with fail
    go_ret2
    exact ⟨(some ⟨w.heap.size, 0, none⟩), 0, rfl, ⟨_, Ot_2.out⟩, HBwt_5.out⟩
  | true =>
    replace H := let_hid H
    obtain ⟨t_6, ht_6, H⟩ := H
    obtain rfl : t_6 = false := ht_6.symm
    replace H := ite_f H
    go_wp2_with fail
    go_loopg [5, 4] (list.length) (fun m_ v5_ v4_ wr => ∃ (k0 : Nat) (out_4l0 : (List (List Int))) (Aout_4l0 : Option Addr) (cout_4l0 : Nat) (Bout_4l0 : List (Option Addr)), k0 + m_ = list.length ∧ v5_ = .int .i64 (k0 : Int) ∧ v4_ = .slice Aout_4l0 out_4l0.length cout_4l0 ∧ Hid (cntK (l0 list) m_ k0 (out_4l0) (e0 ) = some (r0, r1)) ∧ Hid (Below w.heap.size w wr) ∧ Hid (Go.Proofs.Ytdgbigkcophjoaa.GoN.OwnNest wr (w.heap.size) 29 3 1 Go.Proofs.Ytdgbigkcophjoaa.HelpInt.iv Aout_4l0 cout_4l0 out_4l0 Bout_4l0))
    case atStart => exact ⟨0, _, _, _, _, by omega, rfl, rfl, H, HBwt_5, Ot_2⟩
    case round =>
      obtain ⟨k0, out_4l0, Aout_4l0, cout_4l0, Bout_4l0, hkm0, rfl, rfl, H, HBwr0, Oout_4l0⟩ := hrel
      rename World => wr0
      cases gk with
      | zero =>
        obtain rfl : k0 = list.length := by omega
        have hc0 : decide (((list.length : Nat) : Int) < ((list.length : Nat) : Int)) = false := by simp
        replace H := cnt_zero H
        unfold e0 at H
        replace H := let_hid H
        obtain ⟨_, rfl, H⟩ := H
        cases ret_hid H
        go_wp2_with fail
        go_ret2
        exact ⟨Aout_4l0, cout_4l0, rfl, ⟨_, Oout_4l0.out⟩, HBwr0.out⟩
      | succ m0 =>
        have hlt0 : k0 < list.length := by omega
        have hc0 : decide ((k0 : Int) < ((list.length : Nat) : Int)) = true := by simp; omega
        replace H := cnt_succ H
        unfold l0 at H
        replace H := let_hid H
        obtain ⟨_, rfl, H⟩ := H
        obtain ⟨w_t_15, hw_t_15⟩ : ∃ x, wr0.alloc (.cells #[] 3) = x := ⟨_, rfl⟩
        have bw_t_15 : Below wr0.heap.size wr0 w_t_15 := by rw [← hw_t_15]; exact (Below.refl _ _).alloc (Nat.le_refl _) _
        have Ot_15 : Hid (w_t_15.ownsRow w.heap.size 3 1 (.slice (some ⟨wr0.heap.size, 0, none⟩) 0 0) 0 []) := Lib.hid (by rw [← hw_t_15]; exact own_empty HBwr0.out.size)
        have Dt_15_out_4l0 := Lib.hid (Go.Proofs.Ytdgbigkcophjoaa.GoN.nest_fresh Oout_4l0.out)
        have HBw_t_15 := Lib.hid (Below.step HBwr0.out bw_t_15)
        replace Oout_4l0 := Lib.hid (Go.Proofs.Ytdgbigkcophjoaa.GoN.nest_below Oout_4l0.out bw_t_15)
        clear bw_t_15
        go_wp2_with fail
        go_loopg [8, 6, 7] (list.length) (fun m_ v8_ v6_ v7_ wr => ∃ (k1 : Nat) (ids_6l1 : (List Int)) (first_7l1 : Bool) (Aids_6l1 : Option Addr) (cids_6l1 : Nat), k1 + m_ = list.length ∧ v8_ = .int .i64 (k1 : Int) ∧ v6_ = .slice Aids_6l1 ids_6l1.length cids_6l1 ∧ v7_ = .bool first_7l1 ∧ Hid (cntK (l1 list k0) m_ k1 (ids_6l1, first_7l1) (e1 (fun s' => cntK (l0 list) m0 (k0 + 1) s' (e0 )) out_4l0) = some (r0, r1)) ∧ Hid (Below w.heap.size w wr) ∧ Hid (wr.ownsRow w.heap.size 3 1 (.slice Aids_6l1 ids_6l1.length cids_6l1) ids_6l1.length (Go.Proofs.Ytdgbigkcophjoaa.HelpInt.iv ids_6l1)) ∧ Hid (Go.Proofs.Ytdgbigkcophjoaa.GoN.OwnNest wr (w.heap.size) 29 3 1 Go.Proofs.Ytdgbigkcophjoaa.HelpInt.iv Aout_4l0 cout_4l0 out_4l0 Bout_4l0) ∧ Hid (∀ y_ ∈ Bout_4l0, Apart Aids_6l1 y_))
        case atStart => exact ⟨0, _, _, _, _, by omega, rfl, rfl, rfl, H, HBw_t_15, Ot_15, Oout_4l0, Lib.hid Dt_15_out_4l0.out⟩
        case round =>
          obtain ⟨k1, ids_6l1, first_7l1, Aids_6l1, cids_6l1, hkm1, rfl, rfl, rfl, H, HBwr1, Oids_6l1, Oout_4l0, Dids_6l1_out_4l0⟩ := hrel
          rename World => wr1
          cases gk with
          | zero =>
            obtain rfl : k1 = list.length := by omega
            have hc1 : decide (((list.length : Nat) : Int) < ((list.length : Nat) : Int)) = false := by simp
            replace H := cnt_zero H
            unfold e1 at H
            replace H := unp2_hid H
            cases first_7l1 with
            | false =>
              replace H := ite_f H
              replace H := app_hid H
              go_wp2_with fail
              go_roundg m0
              case measure => omega
              case rel => exact ⟨k0 + 1, _, _, _, _, by omega, by go_num, rfl, H, HBwr1, Oout_4l0⟩
            | true =>
              replace H := ite_t H
              obtain ⟨w_t_69, hw_t_69⟩ : ∃ x, wr1.alloc (.cells #[.slice Aids_6l1 ids_6l1.length cids_6l1] 29) = x := ⟨_, rfl⟩
              have bw_t_69 : Below wr1.heap.size wr1 w_t_69 := by rw [← hw_t_69]; exact (Below.refl _ _).alloc (Nat.le_refl _) _
              have HBw_t_69 := Lib.hid (Below.step HBwr1.out bw_t_69)
              replace Oout_4l0 := Lib.hid (Go.Proofs.Ytdgbigkcophjoaa.GoN.nest_below Oout_4l0.out bw_t_69)
              replace Oids_6l1 := Lib.hid (own_below Oids_6l1.out bw_t_69)
              clear bw_t_69
              replace H := guard_hid H
              obtain ⟨hlt_70, H⟩ := H
              replace H := let_hid H
              obtain ⟨t_70, ht_70, H⟩ := H
              have hht_70 := Lib.hid ht_70
              clear ht_70
              have hst_70 := HBw_t_69.out.size
              obtain ⟨zt_70, h1t_70, h2t_70, h3t_70, h4t_70, h5t_70⟩ := Oout_4l0.out
              have h1t_70i := Lib.hid h1t_70
              have h3t_70i := Lib.hid h3t_70
              have h4t_70i := Lib.hid h4t_70
              have h5t_70i := Lib.hid h5t_70
              clear h1t_70 h3t_70 h4t_70 h5t_70
              have h2t_70i := Lib.hid h2t_70
              clear h2t_70
              go_wp2_with (at_builtin; refine wpList_append_own_at _ rfl _ _ 67 rfl w.heap.size 29 i0_29 (.slice none 0 0) 1 24 Try.underlying67 hi_29 hz0_29 hz1_29 hz2_29 rfl (by decide) _ _ _ rfl h2t_70i.out ⟨wr1.heap.size, 0, none⟩ 1 1 [.slice Aids_6l1 ids_6l1.length cids_6l1] rfl rfl (news_new hw_t_69) (one_cells rfl) (by unfold maxLen; omega) (by omega) hst_70 ?_; intro vt_70 wt_70 ot_70 gt_70 ut_70 yt_70; clear ut_70; obtain ⟨qt_70, ct_70, Bt_70, rfl, pt_70, dt_70, rt_70⟩ := Go.Proofs.Ytdgbigkcophjoaa.GoN.nest_app hht_70.out h1t_70i.out h4t_70i.out h3t_70i.out h5t_70i.out Oids_6l1.out Dids_6l1_out_4l0.out gt_70 ot_70 yt_70; have Pt_70 := Lib.hid pt_70; have Ut_70 := Lib.hid dt_70; have Rt_70 := Lib.hid rt_70; have Gt_70 := Lib.hid gt_70; clear ot_70 gt_70 pt_70 yt_70 dt_70 rt_70; refine stop_in ?_)
              refine stop_out ?_
              have HBwt_70 := Lib.hid (HBw_t_69.out.grown Gt_70.out hst_70 (fun q hq => (h2t_70i.out.lt q hq).1))
              clear hst_70
              replace Oids_6l1 := Lib.hid (own_other Oids_6l1.out Gt_70.out (Apart.symm (Dids_6l1_out_4l0.out _ (Go.Proofs.Ytdgbigkcophjoaa.GoN.nest_head Oout_4l0.out))))
              clear Oout_4l0 Gt_70 h1t_70i h2t_70i h3t_70i h4t_70i h5t_70i
              clear Oids_6l1
              have mmt_70 := Lib.hid Ut_70.out.2.1
              clear Ut_70
              replace H := app_hid H
              go_wp2_with fail
              go_roundg m0
              case measure => omega
              case rel => exact ⟨k0 + 1, _, _, _, _, by omega, by go_num, rfl, H, HBwt_70, Pt_70⟩
          | succ m1 =>
            have hlt1 : k1 < list.length := by omega
            have hc1 : decide ((k1 : Int) < ((list.length : Nat) : Int)) = true := by simp; omega
            replace H := cnt_succ H
            unfold l1 at H
            replace H := unp2_hid H
            go_wp2_with fail
            replace H := idx_hid H
            obtain ⟨nt_25, yt_25, et_25, lt_25, gt_25, H⟩ := H
            obtain rfl : k1 = nt_25 := by omega
            clear et_25
            obtain ⟨t_25_id, t_25_wide, t_25_high, t_25_line⟩ := yt_25
            replace H := unComb_hid H
            obtain ⟨ab_t_25, ao_t_25, zt_25, At_25, z_t_25, ct_25_0, ct_25_1, ct_25_2, ct_25_3⟩ := Go.Proofs.Ytdgbigkcophjoaa.OComb.at_ M0.out lt_25
            obtain rfl := Option.some.inj (gt_25.out.symm.trans z_t_25)
            subst At_25
            have ltt_25 := cell_lt ct_25_0
            replace ct_25_0 := cell_below HBwr1.out ct_25_0
            replace ct_25_1 := cell_below HBwr1.out ct_25_1
            replace ct_25_2 := cell_below HBwr1.out ct_25_2
            replace ct_25_3 := cell_below HBwr1.out ct_25_3
            clear z_t_25
            have b0t_25 : (0 : Int) ≤ (k1 : Int) := by omega
            have b1t_25 : (k1 : Int) < ((list.length : Nat) : Int) := by omega
            have b2t_25 : ((k1 : Int)).toNat = k1 := by omega
            have Hct_25_0 := Lib.hid ct_25_0
            replace ct_25_0 := cell_regrown ct_25_0
            have Hct_25_1 := Lib.hid ct_25_1
            replace ct_25_1 := cell_regrown ct_25_1
            have Hct_25_2 := Lib.hid ct_25_2
            replace ct_25_2 := cell_regrown ct_25_2
            have Hct_25_3 := Lib.hid ct_25_3
            replace ct_25_3 := cell_regrown ct_25_3
            replace H := idx_hid H
            obtain ⟨nt_30, yt_30, et_30, lt_30, gt_30, H⟩ := H
            obtain rfl : k0 = nt_30 := by omega
            clear et_30
            obtain ⟨t_30_id, t_30_wide, t_30_high, t_30_line⟩ := yt_30
            replace H := unComb_hid H
            obtain ⟨ab_t_30, ao_t_30, zt_30, At_30, z_t_30, ct_30_0, ct_30_1, ct_30_2, ct_30_3⟩ := Go.Proofs.Ytdgbigkcophjoaa.OComb.at_ M0.out lt_30
            obtain rfl := Option.some.inj (gt_30.out.symm.trans z_t_30)
            simp only [Option.some.injEq, Addr.mk.injEq] at At_30
            obtain ⟨rfl, rfl, _⟩ := At_30
            have ltt_30 := cell_lt ct_30_0
            replace ct_30_0 := cell_below HBwr1.out ct_30_0
            replace ct_30_1 := cell_below HBwr1.out ct_30_1
            replace ct_30_2 := cell_below HBwr1.out ct_30_2
            replace ct_30_3 := cell_below HBwr1.out ct_30_3
            clear z_t_30
            have b0t_30 : (0 : Int) ≤ (k0 : Int) := by omega
            have b1t_30 : (k0 : Int) < ((list.length : Nat) : Int) := by omega
            have b2t_30 : ((k0 : Int)).toNat = k0 := by omega
            have Hct_30_0 := Lib.hid ct_30_0
            replace ct_30_0 := cell_regrown ct_30_0
            have Hct_30_1 := Lib.hid ct_30_1
            replace ct_30_1 := cell_regrown ct_30_1
            have Hct_30_2 := Lib.hid ct_30_2
            replace ct_30_2 := cell_regrown ct_30_2
            have Hct_30_3 := Lib.hid ct_30_3
            replace ct_30_3 := cell_regrown ct_30_3
            replace H := let_hid H
            obtain ⟨t_33, ht_33, H⟩ := H
            replace H := join_hid H
            cases t_33 with
            | false =>
              replace H := ite_f H
              replace H := app_hid H
              refine wp_region_quiet_below (by kernel_rfl) (by kernel_rfl) ?_
              repeat (go_big_quiet_step (fail))
              refine wpQuiet_nil ?_
              intro Y12 hY12
              replace hY12 := below_class hY12
              replace ct_25_0 := Hct_25_0.out
              clear Hct_25_0
              replace ct_25_1 := Hct_25_1.out
              clear Hct_25_1
              replace ct_25_2 := Hct_25_2.out
              clear Hct_25_2
              replace ct_25_3 := Hct_25_3.out
              clear Hct_25_3
              replace ct_30_0 := Hct_30_0.out
              clear Hct_30_0
              replace ct_30_1 := Hct_30_1.out
              clear Hct_30_1
              replace ct_30_2 := Hct_30_2.out
              clear Hct_30_2
              replace ct_30_3 := Hct_30_3.out
              clear Hct_30_3
              have HBY12 := Lib.hid (Below.step HBwr1.out hY12)
              replace ct_25_0 := cell_below hY12 ct_25_0
              replace ct_25_1 := cell_below hY12 ct_25_1
              replace ct_25_2 := cell_below hY12 ct_25_2
              replace ct_25_3 := cell_below hY12 ct_25_3
              replace ct_30_0 := cell_below hY12 ct_30_0
              replace ct_30_1 := cell_below hY12 ct_30_1
              replace ct_30_2 := cell_below hY12 ct_30_2
              replace ct_30_3 := cell_below hY12 ct_30_3
              replace Oout_4l0 := Lib.hid (Go.Proofs.Ytdgbigkcophjoaa.GoN.nest_below Oout_4l0.out hY12)
              replace Oids_6l1 := Lib.hid (own_below Oids_6l1.out hY12)
              clear hY12
              replace H := ite_f H
              replace H := app_hid H
              go_wp2_with fail
              go_roundg m1
              case measure => omega
              case rel => exact ⟨k1 + 1, _, _, _, _, by omega, by go_num, rfl, rfl, H, HBY12, Oids_6l1, Oout_4l0, Lib.hid Dids_6l1_out_4l0.out⟩
            | true =>
              replace H := ite_t H
              replace H := idx_hid H
              obtain ⟨nt_37, yt_37, et_37, lt_37, gt_37, H⟩ := H
              obtain rfl : k1 = nt_37 := by omega
              clear et_37
              obtain rfl := Option.some.inj (gt_25.out.symm.trans gt_37.out)
              clear gt_37 lt_37
              replace H := unComb_hid H
              replace H := idx_hid H
              obtain ⟨nt_42, yt_42, et_42, lt_42, gt_42, H⟩ := H
              obtain rfl : k0 = nt_42 := by omega
              clear et_42
              obtain rfl := Option.some.inj (gt_30.out.symm.trans gt_42.out)
              clear gt_42 lt_42
              replace H := unComb_hid H
              replace H := let_hid H
              obtain ⟨t_45, ht_45, H⟩ := H
              replace H := app_hid H
              refine wp_region_quiet_below (by kernel_rfl) (by kernel_rfl) ?_
              repeat (go_big_quiet_step (fail))
              refine wpQuiet_nil ?_
              intro Y12 hY12
              replace hY12 := below_class hY12
              replace ct_25_0 := Hct_25_0.out
              clear Hct_25_0
              replace ct_25_1 := Hct_25_1.out
              clear Hct_25_1
              replace ct_25_2 := Hct_25_2.out
              clear Hct_25_2
              replace ct_25_3 := Hct_25_3.out
              clear Hct_25_3
              replace ct_30_0 := Hct_30_0.out
              clear Hct_30_0
              replace ct_30_1 := Hct_30_1.out
              clear Hct_30_1
              replace ct_30_2 := Hct_30_2.out
              clear Hct_30_2
              replace ct_30_3 := Hct_30_3.out
              clear Hct_30_3
              have HBY12 := Lib.hid (Below.step HBwr1.out hY12)
              replace ct_25_0 := cell_below hY12 ct_25_0
              replace ct_25_1 := cell_below hY12 ct_25_1
              replace ct_25_2 := cell_below hY12 ct_25_2
              replace ct_25_3 := cell_below hY12 ct_25_3
              replace ct_30_0 := cell_below hY12 ct_30_0
              replace ct_30_1 := cell_below hY12 ct_30_1
              replace ct_30_2 := cell_below hY12 ct_30_2
              replace ct_30_3 := cell_below hY12 ct_30_3
              replace Oout_4l0 := Lib.hid (Go.Proofs.Ytdgbigkcophjoaa.GoN.nest_below Oout_4l0.out hY12)
              replace Oids_6l1 := Lib.hid (own_below Oids_6l1.out hY12)
              clear hY12
              cases t_45 with
              | false =>
                replace H := ite_f H
                replace H := app_hid H
                go_wp2_with fail
                go_roundg m1
                case measure => omega
                case rel => exact ⟨k1 + 1, _, _, _, _, by omega, by go_num, rfl, rfl, H, HBY12, Oids_6l1, Oout_4l0, Lib.hid Dids_6l1_out_4l0.out⟩
              | true =>
                replace H := ite_t H
                replace H := idx_hid H
                obtain ⟨nt_50, yt_50, et_50, lt_50, gt_50, H⟩ := H
                obtain rfl : k1 = nt_50 := by omega
                clear et_50
                obtain rfl := Option.some.inj (gt_25.out.symm.trans gt_50.out)
                clear gt_50 lt_50
                replace H := unComb_hid H
                obtain ⟨w_t_53, hw_t_53⟩ : ∃ x, Y12.alloc (.cells #[.int .i64 t_25_id] 3) = x := ⟨_, rfl⟩
                have bw_t_53 : Below Y12.heap.size Y12 w_t_53 := by rw [← hw_t_53]; exact (Below.refl _ _).alloc (Nat.le_refl _) _
                have HBw_t_53 := Lib.hid (Below.step HBY12.out bw_t_53)
                have ct_25_0__536 := cell_below bw_t_53 ct_25_0
                have ct_25_1__537 := cell_below bw_t_53 ct_25_1
                have ct_25_2__538 := cell_below bw_t_53 ct_25_2
                have ct_25_3__539 := cell_below bw_t_53 ct_25_3
                have ct_30_0__540 := cell_below bw_t_53 ct_30_0
                have ct_30_1__541 := cell_below bw_t_53 ct_30_1
                have ct_30_2__542 := cell_below bw_t_53 ct_30_2
                have ct_30_3__543 := cell_below bw_t_53 ct_30_3
                replace Oout_4l0 := Lib.hid (Go.Proofs.Ytdgbigkcophjoaa.GoN.nest_below Oout_4l0.out bw_t_53)
                replace Oids_6l1 := Lib.hid (own_below Oids_6l1.out bw_t_53)
                clear bw_t_53
                replace H := guard_hid H
                obtain ⟨hlt_54, H⟩ := H
                replace H := let_hid H
                obtain ⟨t_54, ht_54, H⟩ := H
                have hht_54 := Lib.hid ht_54
                clear ht_54
                have hst_54 := HBw_t_53.out.size
                go_wp2_with (at_builtin; refine wpList_append_own_at _ rfl _ _ 29 rfl w.heap.size 3 i0_3 (.int .i64 0) 1 8 Try.underlying29 hi_3 hz0_3 hz1_3 hz2_3 rfl (by decide) _ _ _ rfl Oids_6l1.out ⟨Y12.heap.size, 0, none⟩ 1 1 [.int .i64 t_25_id] rfl rfl (news_new hw_t_53) (one_cells rfl) (by unfold maxLen; omega) (by omega) hst_54 ?_; intro vt_54 wt_54 ot_54 gt_54 zt_54 yt_54; clear zt_54; obtain ⟨qt_54, ct_54, rfl, pt_54⟩ := own_push hht_54.out (Go.Proofs.Ytdgbigkcophjoaa.HelpInt.iv_snoc _ _) rfl ot_54; have Pt_54 := Lib.hid pt_54; have Yt_54 := Lib.hid yt_54; have Gt_54 := Lib.hid gt_54; clear ot_54 gt_54 pt_54 yt_54; refine stop_in ?_)
                refine stop_out ?_
                have HBwt_54 := Lib.hid (HBw_t_53.out.grown Gt_54.out hst_54 (fun q hq => (Oids_6l1.out.lt q hq).1))
                clear hst_54
                have Dt_54_out_4l0 : Hid (∀ y_ ∈ Bout_4l0, Apart (some ⟨qt_54, 0, none⟩) y_) := Lib.hid (fun y_ hy_ => (apart_app (Dids_6l1_out_4l0.out y_ hy_) (fun a_ ha_ => (Go.Proofs.Ytdgbigkcophjoaa.GoN.nest_lt Oout_4l0.out y_ hy_ a_ ha_).2) Yt_54.out))
                replace ct_25_0__536 := cell_other ct_25_0__536 Gt_54.out (apart_old Oids_6l1.out ltt_25)
                replace ct_25_1__537 := cell_other ct_25_1__537 Gt_54.out (apart_old Oids_6l1.out ltt_25)
                replace ct_25_2__538 := cell_other ct_25_2__538 Gt_54.out (apart_old Oids_6l1.out ltt_25)
                replace ct_25_3__539 := cell_other ct_25_3__539 Gt_54.out (apart_old Oids_6l1.out ltt_25)
                replace ct_30_0__540 := cell_other ct_30_0__540 Gt_54.out (apart_old Oids_6l1.out ltt_30)
                replace ct_30_1__541 := cell_other ct_30_1__541 Gt_54.out (apart_old Oids_6l1.out ltt_30)
                replace ct_30_2__542 := cell_other ct_30_2__542 Gt_54.out (apart_old Oids_6l1.out ltt_30)
                replace ct_30_3__543 := cell_other ct_30_3__543 Gt_54.out (apart_old Oids_6l1.out ltt_30)
                replace Oout_4l0 := Lib.hid (Go.Proofs.Ytdgbigkcophjoaa.GoN.nest_other Oout_4l0.out Gt_54.out Dids_6l1_out_4l0.out)
                clear ct_25_0 ct_25_1 ct_25_2 ct_25_3 ct_30_0 ct_30_1 ct_30_2 ct_30_3
                clear Oids_6l1 Yt_54 Gt_54
                replace H := join_hid H
                cases first_7l1 with
                | false =>
                  replace H := ite_f H
                  replace H := app_hid H
                  replace H := app_hid H
                  go_wp2_with fail
                  go_roundg m1
                  case measure => omega
                  case rel => exact ⟨k1 + 1, _, _, _, _, by omega, by go_num, rfl, rfl, H, HBwt_54, Pt_54, Oout_4l0, Lib.hid Dt_54_out_4l0.out⟩
                | true =>
                  replace H := ite_t H
                  replace H := let_hid H
                  obtain ⟨t_60, ht_60, H⟩ := H
                  replace H := app_hid H
                  cases t_60 with
                  | false =>
                    have nht_60 : ¬ (k0 ≤ k1) := by have := of_decide_eq_false ht_60; omega
                    replace H := app_hid H
                    go_wp2_with fail
                    go_roundg m1
                    case measure => omega
                    case rel => exact ⟨k1 + 1, _, _, _, _, by omega, by go_num, rfl, rfl, H, HBwt_54, Pt_54, Oout_4l0, Lib.hid Dt_54_out_4l0.out⟩
                  | true =>
                    have nht_60 : k0 ≤ k1 := by have := of_decide_eq_true ht_60; omega
                    replace H := app_hid H
                    go_wp2_with fail
                    go_roundg m1
                    case measure => omega
                    case rel => exact ⟨k1 + 1, _, _, _, _, by omega, by go_num, rfl, rfl, H, HBwt_54, Pt_54, Oout_4l0, Lib.hid Dt_54_out_4l0.out⟩
end Go.Proofs.Ytdgbigkcophjoaa.GsSameGauges
