/- loop.example/g01062/spec.IssuedBy as a plain function, and the contract of the program's: where the plain one has an answer, the program has it. Conditions: slices read as lists. -/
import Derived.Test.YtdgbigkcophjoaaChecked
import Derived.Test.YtdgbigkcophjoaaGoM
import Derived.Test.YtdgbigkcophjoaaGoRStamp
import Derived.Test.YtdgbigkcophjoaaHelpInt
import Derived.Test.YtdgbigkcophjoaaHelpStamp
import Derived.Test.YtdgbigkcophjoaaGsL2Stamps
import Derived.Test.YtdgbigkcophjoaaGsL2Year
import Derived.WalkKit
import Derived.WalkSpells
import Derived.WalkLawsBesides
import Derived.BigQuiet
import Derived.OwnWalk
import Derived.Deep.LoopGhost
import Derived.Deep.QuietTactic
import Derived.IntWalk
import Derived.Lib.QuietBelow
namespace Go.Proofs.Ytdgbigkcophjoaa.GsIssuedBy
set_option linter.unusedVariables false
set_option linter.unusedSimpArgs false
open Go.RowKit
open Go.Proofs.Ytdgbigkcophjoaa.Rowed Go.Proofs.Ytdgbigkcophjoaa.Turn Go.Proofs.Ytdgbigkcophjoaa.Aid Go.Proofs.Ytdgbigkcophjoaa.GoP Go.Proofs.Ytdgbigkcophjoaa.GoM

def l0 (list : (List Go.Proofs.Ytdgbigkcophjoaa.PlainStamp.St)) (year : Int) (k0 : Nat) (s : (List Int)) (nx0 bk0 : (List Int) → Option ((List Int) × Bool)) : Option ((List Int) × Bool) :=
  letK s fun out_6l0 =>
  Option.bind (idx list (k0 : Int)) fun (yt_22 : Go.Proofs.Ytdgbigkcophjoaa.PlainStamp.St) =>
  unStamp yt_22 fun (t_22_id : Int) (t_22_face : Int) (t_22_color : Int) (t_22_year : Int) =>
  letK (decide (t_22_year ≤ year)) fun (t_26 : Bool) =>
  iteK t_26
  (Option.bind (idx list (k0 : Int)) fun (yt_30 : Go.Proofs.Ytdgbigkcophjoaa.PlainStamp.St) =>
  unStamp yt_30 fun (t_30_id : Int) (t_30_face : Int) (t_30_color : Int) (t_30_year : Int) =>
  guardK (out_6l0.length ≤ 1099511627776) <|
  letK (out_6l0 ++ [t_30_id]) fun (t_34 : (List Int)) =>
  appK nx0 (t_34))
  (appK nx0 (out_6l0))

def e0  (s : (List Int)) : Option ((List Int) × Bool) :=
  letK s fun out_6l0 =>
  some (out_6l0, true)

def P (list : (List Go.Proofs.Ytdgbigkcophjoaa.PlainStamp.St)) (year : Int) : Option ((List Int) × Bool) :=
  Option.bind (Go.Proofs.Ytdgbigkcophjoaa.GsL2Stamps.P list) fun (t_5 : Bool) =>
  letK (!t_5) fun (t_6 : Bool) =>
  joinK (fun (t_11 : Bool) =>
  iteK t_11
  (some (([] : List Int), false))
  (cntK (l0 list year) (list.length) 0 (([] : List Int)) (e0 ))) fun jt_11 => iteK t_6 (appK jt_11 true) (Option.bind (Go.Proofs.Ytdgbigkcophjoaa.GsL2Year.P year) fun (t_9 : Bool) =>
  letK (!t_9) fun (t_10 : Bool) =>
  appK jt_11 t_10)

set_option maxRecDepth 100000 in
set_option maxHeartbeats 2000000 in
theorem C (list : (List Go.Proofs.Ytdgbigkcophjoaa.PlainStamp.St)) (year : Int) (A0 : Option Addr) (c0 : Nat)  (w : World) (M0 : Hid (Cells w 4 A0 list.length (Go.Proofs.Ytdgbigkcophjoaa.PlainStamp.flat list))) (N0 : Hid (list.length ≤ 9223372036854775807))  {r0 : (List Int)} {r1 : Bool} (H : Hid (P list year = some (r0, r1))) :
    Calls Try.prog 32 #[.slice A0 list.length c0, .int .i64 year] w (fun e w' => ∃ A_r0 c_r0, e = .returned (.tuple #[.slice A_r0 r0.length c_r0, .bool r1]) ∧ w'.ownsRow w.heap.size 3 1 (.slice A_r0 r0.length c_r0) r0.length (Go.Proofs.Ytdgbigkcophjoaa.HelpInt.iv r0) ∧ Below w.heap.size w w') := by
  have HB := Lib.hid (Below.refl w.heap.size w)
  unfold P at H
  have N0o := N0.out
  obtain ⟨i0_3, hi_3, hz0_3, hz1_3, hz2_3⟩ := Aid.info_parts (P := Try.prog) (T := 3) (z := .int .i64 0) (s := 1) (b := 8) (by kernel_rfl)
  go_enter Try.func32, Try.ntmps32
  obtain ⟨w_t_2, hw_t_2⟩ : ∃ x, w.alloc (.cells #[] 3) = x := ⟨_, rfl⟩
  have bw_t_2 : Below w.heap.size w w_t_2 := by rw [← hw_t_2]; exact (Below.refl _ _).alloc (Nat.le_refl _) _
  have Ot_2 : Hid (w_t_2.ownsRow w.heap.size 3 1 (.slice (some ⟨w.heap.size, 0, none⟩) 0 0) 0 []) := Lib.hid (by rw [← hw_t_2]; exact own_empty HB.out.size)
  have HBw_t_2 := Lib.hid (Below.step HB.out bw_t_2)
  clear bw_t_2
  replace H := bind_hid H
  obtain ⟨t_5, qt_5, H⟩ := H
  go_wp2_with fail
  go_at_call 61
  refine (Go.Proofs.Ytdgbigkcophjoaa.GsL2Stamps.C (list) A0 c0 _   (Lib.hid (Cells.below M0.out HBw_t_2.out)) N0 qt_5).mono ?_
  rintro e_t_5 wt_5 ⟨rfl, bt_5⟩
  have HBwt_5 := Lib.hid (Below.step HBw_t_2.out bt_5)
  replace Ot_2 := Lib.hid (own_below Ot_2.out bt_5)
  clear bt_5
  cases t_5 with
  | false =>
    replace H := let_hid H
    obtain ⟨t_6, ht_6, H⟩ := H
    obtain rfl : t_6 = true := ht_6.symm
    replace H := join_hid H
    replace H := ite_t H
    replace H := app_hid H
    replace H := ite_t H
    cases ret_hid H
    go_wp2_with fail
    go_ret2
    exact ⟨(some ⟨w.heap.size, 0, none⟩), 0, rfl, Ot_2.out, HBwt_5.out⟩
  | true =>
    replace H := let_hid H
    obtain ⟨t_6, ht_6, H⟩ := H
    obtain rfl : t_6 = false := ht_6.symm
    replace H := join_hid H
    replace H := ite_f H
    replace H := bind_hid H
    obtain ⟨t_9, qt_9, H⟩ := H
    go_wp2_with fail
    go_at_call 68
    refine (Go.Proofs.Ytdgbigkcophjoaa.GsL2Year.C (year)  _    qt_9).mono ?_
    rintro e_t_9 wt_9 ⟨rfl, bt_9⟩
    have HBwt_9 := Lib.hid (Below.step HBwt_5.out bt_9)
    replace Ot_2 := Lib.hid (own_below Ot_2.out bt_9)
    clear bt_9
    cases t_9 with
    | false =>
      replace H := let_hid H
      obtain ⟨t_10, ht_10, H⟩ := H
      obtain rfl : t_10 = true := ht_10.symm
      replace H := app_hid H
      replace H := ite_t H
      cases ret_hid H
      go_wp2_with fail
      go_ret2
      exact ⟨(some ⟨w.heap.size, 0, none⟩), 0, rfl, Ot_2.out, HBwt_9.out⟩
    | true =>
      replace H := let_hid H
      obtain ⟨t_10, ht_10, H⟩ := H
      obtain rfl : t_10 = false := ht_10.symm
      replace H := app_hid H
      replace H := ite_f H
      go_wp2_with fail
      go_loopg [7, 6] (list.length) (fun m_ v7_ v6_ wr => ∃ (k0 : Nat) (out_6l0 : (List Int)) (Aout_6l0 : Option Addr) (cout_6l0 : Nat), k0 + m_ = list.length ∧ v7_ = .int .i64 (k0 : Int) ∧ v6_ = .slice Aout_6l0 out_6l0.length cout_6l0 ∧ Hid (cntK (l0 list year) m_ k0 (out_6l0) (e0 ) = some (r0, r1)) ∧ Hid (Below w.heap.size w wr) ∧ Hid (wr.ownsRow w.heap.size 3 1 (.slice Aout_6l0 out_6l0.length cout_6l0) out_6l0.length (Go.Proofs.Ytdgbigkcophjoaa.HelpInt.iv out_6l0)))
      case atStart => exact ⟨0, _, _, _, by omega, rfl, rfl, H, HBwt_9, Ot_2⟩
      case round =>
        obtain ⟨k0, out_6l0, Aout_6l0, cout_6l0, hkm0, rfl, rfl, H, HBwr0, Oout_6l0⟩ := hrel
        rename World => wr0
        cases gk with
        | zero =>
          obtain rfl : k0 = list.length := by omega
          have hc0 : decide (((list.length : Nat) : Int) < ((list.length : Nat) : Int)) = false := by simp
          replace H := cnt_zero H
          unfold e0 at H
          replace H := let_hid H
          obtain ⟨_, rfl, H⟩ := H
          cases ret_hid H
          go_wp2_with fail
          go_ret2
          exact ⟨Aout_6l0, cout_6l0, rfl, Oout_6l0.out, HBwr0.out⟩
        | succ m0 =>
          have hlt0 : k0 < list.length := by omega
          have hc0 : decide ((k0 : Int) < ((list.length : Nat) : Int)) = true := by simp; omega
          replace H := cnt_succ H
          unfold l0 at H
          replace H := let_hid H
          obtain ⟨_, rfl, H⟩ := H
          replace H := idx_hid H
          obtain ⟨nt_22, yt_22, et_22, lt_22, gt_22, H⟩ := H
          obtain rfl : k0 = nt_22 := by omega
          clear et_22
          obtain ⟨t_22_id, t_22_face, t_22_color, t_22_year⟩ := yt_22
          replace H := unStamp_hid H
          obtain ⟨ab_t_22, ao_t_22, zt_22, At_22, z_t_22, ct_22_0, ct_22_1, ct_22_2, ct_22_3⟩ := Go.Proofs.Ytdgbigkcophjoaa.HelpStamp.Sts.at_ M0.out lt_22
          obtain rfl := Option.some.inj (gt_22.out.symm.trans z_t_22)
          subst At_22
          have ltt_22 := cell_lt ct_22_0
          replace ct_22_0 := cell_below HBwr0.out ct_22_0
          replace ct_22_1 := cell_below HBwr0.out ct_22_1
          replace ct_22_2 := cell_below HBwr0.out ct_22_2
          replace ct_22_3 := cell_below HBwr0.out ct_22_3
          clear z_t_22
          have b0t_22 : (0 : Int) ≤ (k0 : Int) := by omega
          have b1t_22 : (k0 : Int) < ((list.length : Nat) : Int) := by omega
          have b2t_22 : ((k0 : Int)).toNat = k0 := by omega
          replace H := let_hid H
          obtain ⟨t_26, ht_26, H⟩ := H
          cases t_26 with
          | false =>
            replace H := ite_f H
            replace H := app_hid H
            go_wp2_with fail
            go_roundg m0
            case measure => omega
            case rel => exact ⟨k0 + 1, _, _, _, by omega, by go_num, rfl, H, HBwr0, Oout_6l0⟩
          | true =>
            replace H := ite_t H
            replace H := idx_hid H
            obtain ⟨nt_30, yt_30, et_30, lt_30, gt_30, H⟩ := H
            obtain rfl : k0 = nt_30 := by omega
            clear et_30
            obtain rfl := Option.some.inj (gt_22.out.symm.trans gt_30.out)
            clear gt_30 lt_30
            replace H := unStamp_hid H
            obtain ⟨w_t_33, hw_t_33⟩ : ∃ x, wr0.alloc (.cells #[.int .i64 t_22_id] 3) = x := ⟨_, rfl⟩
            have bw_t_33 : Below wr0.heap.size wr0 w_t_33 := by rw [← hw_t_33]; exact (Below.refl _ _).alloc (Nat.le_refl _) _
            have HBw_t_33 := Lib.hid (Below.step HBwr0.out bw_t_33)
            have ct_22_0__154 := cell_below bw_t_33 ct_22_0
            have ct_22_1__155 := cell_below bw_t_33 ct_22_1
            have ct_22_2__156 := cell_below bw_t_33 ct_22_2
            have ct_22_3__157 := cell_below bw_t_33 ct_22_3
            replace Oout_6l0 := Lib.hid (own_below Oout_6l0.out bw_t_33)
            clear bw_t_33
            replace H := guard_hid H
            obtain ⟨hlt_34, H⟩ := H
            replace H := let_hid H
            obtain ⟨t_34, ht_34, H⟩ := H
            have hht_34 := Lib.hid ht_34
            clear ht_34
            have hst_34 := HBw_t_33.out.size
            go_wp2_with (at_builtin; refine wpList_append_own_at _ rfl _ _ 29 rfl w.heap.size 3 i0_3 (.int .i64 0) 1 8 Try.underlying29 hi_3 hz0_3 hz1_3 hz2_3 rfl (by decide) _ _ _ rfl Oout_6l0.out ⟨wr0.heap.size, 0, none⟩ 1 1 [.int .i64 t_22_id] rfl rfl (news_new hw_t_33) (one_cells rfl) (by unfold maxLen; omega) (by omega) hst_34 ?_; intro vt_34 wt_34 ot_34 gt_34 zt_34 yt_34; clear zt_34; obtain ⟨qt_34, ct_34, rfl, pt_34⟩ := own_push hht_34.out (Go.Proofs.Ytdgbigkcophjoaa.HelpInt.iv_snoc _ _) rfl ot_34; have Pt_34 := Lib.hid pt_34; have Yt_34 := Lib.hid yt_34; have Gt_34 := Lib.hid gt_34; clear ot_34 gt_34 pt_34 yt_34; refine stop_in ?_)
            refine stop_out ?_
            have HBwt_34 := Lib.hid (HBw_t_33.out.grown Gt_34.out hst_34 (fun q hq => (Oout_6l0.out.lt q hq).1))
            clear hst_34
            replace ct_22_0__154 := cell_other ct_22_0__154 Gt_34.out (apart_old Oout_6l0.out ltt_22)
            replace ct_22_1__155 := cell_other ct_22_1__155 Gt_34.out (apart_old Oout_6l0.out ltt_22)
            replace ct_22_2__156 := cell_other ct_22_2__156 Gt_34.out (apart_old Oout_6l0.out ltt_22)
            replace ct_22_3__157 := cell_other ct_22_3__157 Gt_34.out (apart_old Oout_6l0.out ltt_22)
            clear ct_22_0 ct_22_1 ct_22_2 ct_22_3
            clear Oout_6l0 Yt_34 Gt_34
            replace H := app_hid H
            go_wp2_with fail
            go_roundg m0
            case measure => omega
            case rel => exact ⟨k0 + 1, _, _, _, by omega, by go_num, rfl, H, HBwt_34, Pt_34⟩
end Go.Proofs.Ytdgbigkcophjoaa.GsIssuedBy
