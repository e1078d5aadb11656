/- loop.example/g01062/spec.TurnedCombs as a plain function, and the contract of the program's: where the plain one has an answer, the program has it. Conditions: slices read as lists. -/
import Derived.Test.YtdgbigkcophjoaaChecked
import Derived.Test.YtdgbigkcophjoaaGoM
import Derived.Test.YtdgbigkcophjoaaGoRComb
import Derived.Test.YtdgbigkcophjoaaHelpInt
import Derived.Test.YtdgbigkcophjoaaOComb
import Derived.Test.YtdgbigkcophjoaaGsL5Asked
import Derived.Test.YtdgbigkcophjoaaGsL5Match
import Derived.WalkKit
import Derived.WalkSpells
import Derived.WalkLawsBesides
import Derived.BigQuiet
import Derived.OwnWalk
import Derived.Deep.LoopGhost
import Derived.Deep.QuietTactic
import Derived.IntWalk
import Derived.Lib.QuietBelow
namespace Go.Proofs.Ytdgbigkcophjoaa.GsTurnedCombs
set_option linter.unusedVariables false
set_option linter.unusedSimpArgs false
open Go.RowKit
open Go.Proofs.Ytdgbigkcophjoaa.Rowed Go.Proofs.Ytdgbigkcophjoaa.Turn Go.Proofs.Ytdgbigkcophjoaa.Aid Go.Proofs.Ytdgbigkcophjoaa.GoP Go.Proofs.Ytdgbigkcophjoaa.GoM

def l0 (list : (List Go.Proofs.Ytdgbigkcophjoaa.PComb.Comb)) (wide : Int) (high : Int) (off : Int) (k0 : Nat) (s : (List Int)) (nx0 bk0 : (List Int) → Option ((List Int) × Bool)) : Option ((List Int) × Bool) :=
  letK s fun out_10l0 =>
  Option.bind (idx list (k0 : Int)) fun (yt_20 : Go.Proofs.Ytdgbigkcophjoaa.PComb.Comb) =>
  unComb yt_20 fun (t_20_id : Int) (t_20_wide : Int) (t_20_high : Int) (t_20_line : Bool) =>
  Option.bind (Go.Proofs.Ytdgbigkcophjoaa.GsL5Match.P (Go.Proofs.Ytdgbigkcophjoaa.PComb.Comb.mk t_20_id t_20_wide t_20_high t_20_line) wide high off) fun (t_25 : Bool) =>
  letK (!t_25) fun (t_26 : Bool) =>
  joinK (fun (t_36 : Bool) =>
  iteK t_36
  (Option.bind (idx list (k0 : Int)) fun (yt_40 : Go.Proofs.Ytdgbigkcophjoaa.PComb.Comb) =>
  unComb yt_40 fun (t_40_id : Int) (t_40_wide : Int) (t_40_high : Int) (t_40_line : Bool) =>
  guardK (out_10l0.length ≤ 1099511627776) <|
  letK (out_10l0 ++ [t_40_id]) fun (t_44 : (List Int)) =>
  appK nx0 (t_44))
  (appK nx0 (out_10l0))) fun jt_36 => iteK t_26 (Option.bind (idx list (k0 : Int)) fun (yt_30 : Go.Proofs.Ytdgbigkcophjoaa.PComb.Comb) =>
  unComb yt_30 fun (t_30_id : Int) (t_30_wide : Int) (t_30_high : Int) (t_30_line : Bool) =>
  Option.bind (Go.Proofs.Ytdgbigkcophjoaa.GsL5Match.P (Go.Proofs.Ytdgbigkcophjoaa.PComb.Comb.mk t_30_id t_30_wide t_30_high t_30_line) high wide off) fun (t_35 : Bool) =>
  appK jt_36 t_35) (appK jt_36 false)

def e0  (s : (List Int)) : Option ((List Int) × Bool) :=
  letK s fun out_10l0 =>
  some (out_10l0, true)

def P (list : (List Go.Proofs.Ytdgbigkcophjoaa.PComb.Comb)) (wide : Int) (high : Int) (off : Int) : Option ((List Int) × Bool) :=
  Option.bind (Go.Proofs.Ytdgbigkcophjoaa.GsL5Asked.P list wide high off) fun (t_8 : Bool) =>
  letK (!t_8) fun (t_9 : Bool) =>
  iteK t_9
  (some (([] : List Int), false))
  (cntK (l0 list wide high off) (list.length) 0 (([] : List Int)) (e0 ))

set_option maxRecDepth 100000 in
set_option maxHeartbeats 2000000 in
theorem C (list : (List Go.Proofs.Ytdgbigkcophjoaa.PComb.Comb)) (wide : Int) (high : Int) (off : Int) (A0 : Option Addr) (c0 : Nat)  (w : World) (M0 : Hid (Cells w 4 A0 list.length (Go.Proofs.Ytdgbigkcophjoaa.PComb.flat list))) (N0 : Hid (list.length ≤ 9223372036854775807))  {r0 : (List Int)} {r1 : Bool} (H : Hid (P list wide high off = some (r0, r1))) :
    Calls Try.prog 54 #[.slice A0 list.length c0, .int .i64 wide, .int .i64 high, .int .i64 off] w (fun e w' => ∃ A_r0 c_r0, e = .returned (.tuple #[.slice A_r0 r0.length c_r0, .bool r1]) ∧ w'.ownsRow w.heap.size 3 1 (.slice A_r0 r0.length c_r0) r0.length (Go.Proofs.Ytdgbigkcophjoaa.HelpInt.iv r0) ∧ Below w.heap.size w w') := by
  have HB := Lib.hid (Below.refl w.heap.size w)
  unfold P at H
  have N0o := N0.out
  obtain ⟨i0_3, hi_3, hz0_3, hz1_3, hz2_3⟩ := Aid.info_parts (P := Try.prog) (T := 3) (z := .int .i64 0) (s := 1) (b := 8) (by kernel_rfl)
  go_enter Try.func54, Try.ntmps54
  obtain ⟨w_t_2, hw_t_2⟩ : ∃ x, w.alloc (.cells #[] 3) = x := ⟨_, rfl⟩
  have bw_t_2 : Below w.heap.size w w_t_2 := by rw [← hw_t_2]; exact (Below.refl _ _).alloc (Nat.le_refl _) _
  have Ot_2 : Hid (w_t_2.ownsRow w.heap.size 3 1 (.slice (some ⟨w.heap.size, 0, none⟩) 0 0) 0 []) := Lib.hid (by rw [← hw_t_2]; exact own_empty HB.out.size)
  have HBw_t_2 := Lib.hid (Below.step HB.out bw_t_2)
  clear bw_t_2
  replace H := bind_hid H
  obtain ⟨t_8, qt_8, H⟩ := H
  go_wp2_with fail
  go_at_call 96
  refine (Go.Proofs.Ytdgbigkcophjoaa.GsL5Asked.C (list) (wide) (high) (off) A0 c0 _   (Lib.hid (Cells.below M0.out HBw_t_2.out)) N0 qt_8).mono ?_
  rintro e_t_8 wt_8 ⟨rfl, bt_8⟩
  have HBwt_8 := Lib.hid (Below.step HBw_t_2.out bt_8)
  replace Ot_2 := Lib.hid (own_below Ot_2.out bt_8)
  clear bt_8
  cases t_8 with
  | false =>
    replace H := let_hid H
    obtain ⟨t_9, ht_9, H⟩ := H
    obtain rfl : t_9 = true := ht_9.symm
    replace H := ite_t H
    cases ret_hid H
    go_wp2_with fail
    go_ret2
    exact ⟨(some ⟨w.heap.size, 0, none⟩), 0, rfl, Ot_2.out, HBwt_8.out⟩
  | true =>
    replace H := let_hid H
    obtain ⟨t_9, ht_9, H⟩ := H
    obtain rfl : t_9 = false := ht_9.symm
    replace H := ite_f H
    go_wp2_with fail
    go_loopg [11, 10] (list.length) (fun m_ v11_ v10_ wr => ∃ (k0 : Nat) (out_10l0 : (List Int)) (Aout_10l0 : Option Addr) (cout_10l0 : Nat), k0 + m_ = list.length ∧ v11_ = .int .i64 (k0 : Int) ∧ v10_ = .slice Aout_10l0 out_10l0.length cout_10l0 ∧ Hid (cntK (l0 list wide high off) m_ k0 (out_10l0) (e0 ) = some (r0, r1)) ∧ Hid (Below w.heap.size w wr) ∧ Hid (wr.ownsRow w.heap.size 3 1 (.slice Aout_10l0 out_10l0.length cout_10l0) out_10l0.length (Go.Proofs.Ytdgbigkcophjoaa.HelpInt.iv out_10l0)))
    case atStart => exact ⟨0, _, _, _, by omega, rfl, rfl, H, HBwt_8, Ot_2⟩
    case round =>
      obtain ⟨k0, out_10l0, Aout_10l0, cout_10l0, hkm0, rfl, rfl, H, HBwr0, Oout_10l0⟩ := hrel
      rename World => wr0
      cases gk with
      | zero =>
        obtain rfl : k0 = list.length := by omega
        have hc0 : decide (((list.length : Nat) : Int) < ((list.length : Nat) : Int)) = false := by simp
        replace H := cnt_zero H
        unfold e0 at H
        replace H := let_hid H
        obtain ⟨_, rfl, H⟩ := H
        cases ret_hid H
        go_wp2_with fail
        go_ret2
        exact ⟨Aout_10l0, cout_10l0, rfl, Oout_10l0.out, HBwr0.out⟩
      | succ m0 =>
        have hlt0 : k0 < list.length := by omega
        have hc0 : decide ((k0 : Int) < ((list.length : Nat) : Int)) = true := by simp; omega
        replace H := cnt_succ H
        unfold l0 at H
        replace H := let_hid H
        obtain ⟨_, rfl, H⟩ := H
        replace H := idx_hid H
        obtain ⟨nt_20, yt_20, et_20, lt_20, gt_20, H⟩ := H
        obtain rfl : k0 = nt_20 := by omega
        clear et_20
        obtain ⟨t_20_id, t_20_wide, t_20_high, t_20_line⟩ := yt_20
        replace H := unComb_hid H
        obtain ⟨ab_t_20, ao_t_20, zt_20, At_20, z_t_20, ct_20_0, ct_20_1, ct_20_2, ct_20_3⟩ := Go.Proofs.Ytdgbigkcophjoaa.OComb.at_ M0.out lt_20
        obtain rfl := Option.some.inj (gt_20.out.symm.trans z_t_20)
        subst At_20
        have ltt_20 := cell_lt ct_20_0
        replace ct_20_0 := cell_below HBwr0.out ct_20_0
        replace ct_20_1 := cell_below HBwr0.out ct_20_1
        replace ct_20_2 := cell_below HBwr0.out ct_20_2
        replace ct_20_3 := cell_below HBwr0.out ct_20_3
        clear z_t_20
        have b0t_20 : (0 : Int) ≤ (k0 : Int) := by omega
        have b1t_20 : (k0 : Int) < ((list.length : Nat) : Int) := by omega
        have b2t_20 : ((k0 : Int)).toNat = k0 := by omega
        replace H := bind_hid H
        obtain ⟨t_25, qt_25, H⟩ := H
        go_wp2_with fail
        go_at_call 97
        refine (Go.Proofs.Ytdgbigkcophjoaa.GsL5Match.C ((Go.Proofs.Ytdgbigkcophjoaa.PComb.Comb.mk t_20_id t_20_wide t_20_high t_20_line)) (wide) (high) (off)  _    qt_25).mono ?_
        rintro e_t_25 wt_25 ⟨rfl, bt_25⟩
        have HBwt_25 := Lib.hid (Below.step HBwr0.out bt_25)
        replace ct_20_0 := cell_below bt_25 ct_20_0
        replace ct_20_1 := cell_below bt_25 ct_20_1
        replace ct_20_2 := cell_below bt_25 ct_20_2
        replace ct_20_3 := cell_below bt_25 ct_20_3
        replace Oout_10l0 := Lib.hid (own_below Oout_10l0.out bt_25)
        clear bt_25
        cases t_25 with
        | false =>
          replace H := let_hid H
          obtain ⟨t_26, ht_26, H⟩ := H
          obtain rfl : t_26 = true := ht_26.symm
          replace H := join_hid H
          replace H := ite_t H
          replace H := idx_hid H
          obtain ⟨nt_30, yt_30, et_30, lt_30, gt_30, H⟩ := H
          obtain rfl : k0 = nt_30 := by omega
          clear et_30
          obtain rfl := Option.some.inj (gt_20.out.symm.trans gt_30.out)
          clear gt_30 lt_30
          replace H := unComb_hid H
          replace H := bind_hid H
          obtain ⟨t_35, qt_35, H⟩ := H
          go_wp2_with fail
          go_at_call 97
          refine (Go.Proofs.Ytdgbigkcophjoaa.GsL5Match.C ((Go.Proofs.Ytdgbigkcophjoaa.PComb.Comb.mk t_20_id t_20_wide t_20_high t_20_line)) (high) (wide) (off)  _    qt_35).mono ?_
          rintro e_t_35 wt_35 ⟨rfl, bt_35⟩
          have HBwt_35 := Lib.hid (Below.step HBwt_25.out bt_35)
          replace ct_20_0 := cell_below bt_35 ct_20_0
          replace ct_20_1 := cell_below bt_35 ct_20_1
          replace ct_20_2 := cell_below bt_35 ct_20_2
          replace ct_20_3 := cell_below bt_35 ct_20_3
          replace Oout_10l0 := Lib.hid (own_below Oout_10l0.out bt_35)
          clear bt_35
          replace H := app_hid H
          cases t_35 with
          | false =>
            replace H := ite_f H
            replace H := app_hid H
            go_wp2_with fail
            go_roundg m0
            case measure => omega
            case rel => exact ⟨k0 + 1, _, _, _, by omega, by go_num, rfl, H, HBwt_35, Oout_10l0⟩
          | true =>
            replace H := ite_t H
            replace H := idx_hid H
            obtain ⟨nt_40, yt_40, et_40, lt_40, gt_40, H⟩ := H
            obtain rfl : k0 = nt_40 := by omega
            clear et_40
            obtain rfl := Option.some.inj (gt_20.out.symm.trans gt_40.out)
            clear gt_40 lt_40
            replace H := unComb_hid H
            obtain ⟨w_t_43, hw_t_43⟩ : ∃ x, wt_35.alloc (.cells #[.int .i64 t_20_id] 3) = x := ⟨_, rfl⟩
            have bw_t_43 : Below wt_35.heap.size wt_35 w_t_43 := by rw [← hw_t_43]; exact (Below.refl _ _).alloc (Nat.le_refl _) _
            have HBw_t_43 := Lib.hid (Below.step HBwt_35.out bw_t_43)
            have ct_20_0__502 := cell_below bw_t_43 ct_20_0
            have ct_20_1__503 := cell_below bw_t_43 ct_20_1
            have ct_20_2__504 := cell_below bw_t_43 ct_20_2
            have ct_20_3__505 := cell_below bw_t_43 ct_20_3
            replace Oout_10l0 := Lib.hid (own_below Oout_10l0.out bw_t_43)
            clear bw_t_43
            replace H := guard_hid H
            obtain ⟨hlt_44, H⟩ := H
            replace H := let_hid H
            obtain ⟨t_44, ht_44, H⟩ := H
            have hht_44 := Lib.hid ht_44
            clear ht_44
            have hst_44 := HBw_t_43.out.size
            go_wp2_with (at_builtin; refine wpList_append_own_at _ rfl _ _ 29 rfl w.heap.size 3 i0_3 (.int .i64 0) 1 8 Try.underlying29 hi_3 hz0_3 hz1_3 hz2_3 rfl (by decide) _ _ _ rfl Oout_10l0.out ⟨wt_35.heap.size, 0, none⟩ 1 1 [.int .i64 t_20_id] rfl rfl (news_new hw_t_43) (one_cells rfl) (by unfold maxLen; omega) (by omega) hst_44 ?_; intro vt_44 wt_44 ot_44 gt_44 zt_44 yt_44; clear zt_44; obtain ⟨qt_44, ct_44, rfl, pt_44⟩ := own_push hht_44.out (Go.Proofs.Ytdgbigkcophjoaa.HelpInt.iv_snoc _ _) rfl ot_44; have Pt_44 := Lib.hid pt_44; have Yt_44 := Lib.hid yt_44; have Gt_44 := Lib.hid gt_44; clear ot_44 gt_44 pt_44 yt_44; refine stop_in ?_)
            refine stop_out ?_
            have HBwt_44 := Lib.hid (HBw_t_43.out.grown Gt_44.out hst_44 (fun q hq => (Oout_10l0.out.lt q hq).1))
            clear hst_44
            replace ct_20_0__502 := cell_other ct_20_0__502 Gt_44.out (apart_old Oout_10l0.out ltt_20)
            replace ct_20_1__503 := cell_other ct_20_1__503 Gt_44.out (apart_old Oout_10l0.out ltt_20)
            replace ct_20_2__504 := cell_other ct_20_2__504 Gt_44.out (apart_old Oout_10l0.out ltt_20)
            replace ct_20_3__505 := cell_other ct_20_3__505 Gt_44.out (apart_old Oout_10l0.out ltt_20)
            clear ct_20_0 ct_20_1 ct_20_2 ct_20_3
            clear Oout_10l0 Yt_44 Gt_44
            replace H := app_hid H
            go_wp2_with fail
            go_roundg m0
            case measure => omega
            case rel => exact ⟨k0 + 1, _, _, _, by omega, by go_num, rfl, H, HBwt_44, Pt_44⟩
        | true =>
          replace H := let_hid H
          obtain ⟨t_26, ht_26, H⟩ := H
          obtain rfl : t_26 = false := ht_26.symm
          replace H := join_hid H
          replace H := ite_f H
          replace H := app_hid H
          replace H := ite_f H
          replace H := app_hid H
          go_wp2_with fail
          go_roundg m0
          case measure => omega
          case rel => exact ⟨k0 + 1, _, _, _, by omega, by go_num, rfl, H, HBwt_25, Oout_10l0⟩
end Go.Proofs.Ytdgbigkcophjoaa.GsTurnedCombs
