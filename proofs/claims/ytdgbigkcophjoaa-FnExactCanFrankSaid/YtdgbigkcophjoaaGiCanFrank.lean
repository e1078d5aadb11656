/- loop.example/g01062/impl.CanFrank as a plain function, and the contract of the program's: where the plain one has an answer, the program has it. Conditions: slices read as lists. -/
import Derived.Test.YtdgbigkcophjoaaChecked
import Derived.Test.YtdgbigkcophjoaaGoM
import Derived.Test.YtdgbigkcophjoaaGoRStamp
import Derived.Test.YtdgbigkcophjoaaHelpInt
import Derived.Test.YtdgbigkcophjoaaGiAreStamps
import Derived.Test.YtdgbigkcophjoaaGiWithin
import Derived.Test.YtdgbigkcophjoaaGiFewestByValue
import Derived.WalkKit
import Derived.WalkSpells
import Derived.WalkLawsBesides
import Derived.BigQuiet
import Derived.OwnWalk
import Derived.Deep.LoopGhost
import Derived.Deep.QuietTactic
import Derived.IntWalk
import Derived.Lib.QuietBelow
namespace Go.Proofs.Ytdgbigkcophjoaa.GiCanFrank
set_option linter.unusedVariables false
set_option linter.unusedSimpArgs false
open Go.RowKit
open Go.Proofs.Ytdgbigkcophjoaa.Rowed Go.Proofs.Ytdgbigkcophjoaa.Turn Go.Proofs.Ytdgbigkcophjoaa.Aid Go.Proofs.Ytdgbigkcophjoaa.GoP Go.Proofs.Ytdgbigkcophjoaa.GoM

def l0 (most : Int) (t_15 : (List Int)) (s : (List Int) × Int) (nx0 bk0 : (List Int) × Int → Option ((List Int) × Bool)) : Option ((List Int) × Bool) :=
  unp2 s fun rates_7l0 rate_8l0 =>
  letK (decide (rate_8l0 ≤ most)) fun (t_22 : Bool) =>
  iteK t_22
  (Option.bind (idx t_15 rate_8l0) fun (yt_25 : Int) =>
  letK (decide (yt_25 < 12000)) fun (t_27 : Bool) =>
  iteK t_27
  (guardK (rates_7l0.length ≤ 1099511627776) <|
  letK (rates_7l0 ++ [rate_8l0]) fun (t_31 : (List Int)) =>
  letK (IntKind.i64.wrap (rate_8l0 + 1)) fun (t_34 : Int) =>
  appK nx0 (t_31, t_34))
  (letK (IntKind.i64.wrap (rate_8l0 + 1)) fun (t_34 : Int) =>
  appK nx0 (rates_7l0, t_34)))
  (appK bk0 (rates_7l0, rate_8l0))

def e0  (s : (List Int) × Int) : Option ((List Int) × Bool) :=
  unp2 s fun rates_7l0 rate_8l0 =>
  some (rates_7l0, true)

def P (fuel : Nat) (list : (List Go.Proofs.Ytdgbigkcophjoaa.PlainStamp.St)) (most : Int) : Option ((List Int) × Bool) :=
  Option.bind (Go.Proofs.Ytdgbigkcophjoaa.GiAreStamps.P list) fun (t_3 : Bool) =>
  letK (!t_3) fun (t_4 : Bool) =>
  joinK (fun (t_9 : Bool) =>
  iteK t_9
  (some (([] : List Int), false))
  (Option.bind (Go.Proofs.Ytdgbigkcophjoaa.GiFewestByValue.P fuel list 2100 most) fun (t_15 : (List Int)) =>
  loopK (l0 most t_15) fuel (([] : List Int), 1) (e0 ))) fun jt_9 => iteK t_4 (appK jt_9 true) (Option.bind (Go.Proofs.Ytdgbigkcophjoaa.GiWithin.P most 1 500) fun (t_7 : Bool) =>
  letK (!t_7) fun (t_8 : Bool) =>
  appK jt_9 t_8)

set_option maxRecDepth 100000 in
set_option maxHeartbeats 2000000 in
theorem C (fuel : Nat) (list : (List Go.Proofs.Ytdgbigkcophjoaa.PlainStamp.St)) (most : Int) (A0 : Option Addr) (c0 : Nat)  (w : World) (M0 : Hid (Cells w 4 A0 list.length (Go.Proofs.Ytdgbigkcophjoaa.PlainStamp.flat list))) (N0 : Hid (list.length ≤ 9223372036854775807))  {r0 : (List Int)} {r1 : Bool} (H : Hid (P fuel list most = some (r0, r1))) :
    Calls Try.prog 31 #[.slice A0 list.length c0, .int .i64 most] w (fun e w' => ∃ A_r0 c_r0, e = .returned (.tuple #[.slice A_r0 r0.length c_r0, .bool r1]) ∧ w'.ownsRow w.heap.size 3 1 (.slice A_r0 r0.length c_r0) r0.length (Go.Proofs.Ytdgbigkcophjoaa.HelpInt.iv r0) ∧ Below w.heap.size w w') := by
  have HB := Lib.hid (Below.refl w.heap.size w)
  unfold P at H
  have N0o := N0.out
  obtain ⟨i0_3, hi_3, hz0_3, hz1_3, hz2_3⟩ := Aid.info_parts (P := Try.prog) (T := 3) (z := .int .i64 0) (s := 1) (b := 8) (by kernel_rfl)
  go_enter Try.func31, Try.ntmps31
  replace H := bind_hid H
  obtain ⟨t_3, qt_3, H⟩ := H
  go_wp2_with fail
  go_at_call 19
  refine (Go.Proofs.Ytdgbigkcophjoaa.GiAreStamps.C (list) A0 c0 _   (Lib.hid (Cells.below M0.out HB.out)) N0 qt_3).mono ?_
  rintro e_t_3 wt_3 ⟨rfl, bt_3⟩
  have HBwt_3 := Lib.hid (Below.step HB.out bt_3)
  clear bt_3
  cases t_3 with
  | false =>
    replace H := let_hid H
    obtain ⟨t_4, ht_4, H⟩ := H
    obtain rfl : t_4 = true := ht_4.symm
    replace H := join_hid H
    replace H := ite_t H
    replace H := app_hid H
    replace H := ite_t H
    obtain ⟨w_t_10, hw_t_10⟩ : ∃ x, wt_3.alloc (.cells #[] 3) = x := ⟨_, rfl⟩
    have bw_t_10 : Below wt_3.heap.size wt_3 w_t_10 := by rw [← hw_t_10]; exact (Below.refl _ _).alloc (Nat.le_refl _) _
    have Ot_10 : Hid (w_t_10.ownsRow w.heap.size 3 1 (.slice (some ⟨wt_3.heap.size, 0, none⟩) 0 0) 0 []) := Lib.hid (by rw [← hw_t_10]; exact own_empty HBwt_3.out.size)
    have HBw_t_10 := Lib.hid (Below.step HBwt_3.out bw_t_10)
    clear bw_t_10
    cases ret_hid H
    go_wp2_with fail
    go_ret2
    exact ⟨(some ⟨wt_3.heap.size, 0, none⟩), 0, rfl, Ot_10.out, HBw_t_10.out⟩
  | true =>
    replace H := let_hid H
    obtain ⟨t_4, ht_4, H⟩ := H
    obtain rfl : t_4 = false := ht_4.symm
    replace H := join_hid H
    replace H := ite_f H
    replace H := bind_hid H
    obtain ⟨t_7, qt_7, H⟩ := H
    go_wp2_with fail
    go_at_call 71
    refine (Go.Proofs.Ytdgbigkcophjoaa.GiWithin.C (most) (1) (500)  _    qt_7).mono ?_
    rintro e_t_7 wt_7 ⟨rfl, bt_7⟩
    have HBwt_7 := Lib.hid (Below.step HBwt_3.out bt_7)
    clear bt_7
    cases t_7 with
    | false =>
      replace H := let_hid H
      obtain ⟨t_8, ht_8, H⟩ := H
      obtain rfl : t_8 = true := ht_8.symm
      replace H := app_hid H
      replace H := ite_t H
      obtain ⟨w_t_10, hw_t_10⟩ : ∃ x, wt_7.alloc (.cells #[] 3) = x := ⟨_, rfl⟩
      have bw_t_10 : Below wt_7.heap.size wt_7 w_t_10 := by rw [← hw_t_10]; exact (Below.refl _ _).alloc (Nat.le_refl _) _
      have Ot_10 : Hid (w_t_10.ownsRow w.heap.size 3 1 (.slice (some ⟨wt_7.heap.size, 0, none⟩) 0 0) 0 []) := Lib.hid (by rw [← hw_t_10]; exact own_empty HBwt_7.out.size)
      have HBw_t_10 := Lib.hid (Below.step HBwt_7.out bw_t_10)
      clear bw_t_10
      cases ret_hid H
      go_wp2_with fail
      go_ret2
      exact ⟨(some ⟨wt_7.heap.size, 0, none⟩), 0, rfl, Ot_10.out, HBw_t_10.out⟩
    | true =>
      replace H := let_hid H
      obtain ⟨t_8, ht_8, H⟩ := H
      obtain rfl : t_8 = false := ht_8.symm
      replace H := app_hid H
      replace H := ite_f H
      replace H := bind_hid H
      obtain ⟨t_15, qt_15, H⟩ := H
      go_wp2_with fail
      go_at_call 72
      refine (Go.Proofs.Ytdgbigkcophjoaa.GiFewestByValue.C fuel (list) (2100) (most) A0 c0 _   (Lib.hid (Cells.below M0.out HBwt_7.out)) N0 qt_15).mono ?_
      rintro e_t_15 wt_15 ⟨At_15, ct_15, rfl, ot_15, bt_15⟩
      have Ot_15 := Lib.hid (own_lower ot_15 HBwt_7.out.size)
      clear ot_15
      have HBwt_15 := Lib.hid (Below.step HBwt_7.out bt_15)
      clear bt_15
      obtain ⟨w_t_17, hw_t_17⟩ : ∃ x, wt_15.alloc (.cells #[] 3) = x := ⟨_, rfl⟩
      have bw_t_17 : Below wt_15.heap.size wt_15 w_t_17 := by rw [← hw_t_17]; exact (Below.refl _ _).alloc (Nat.le_refl _) _
      have Ot_17 : Hid (w_t_17.ownsRow w.heap.size 3 1 (.slice (some ⟨wt_15.heap.size, 0, none⟩) 0 0) 0 []) := Lib.hid (by rw [← hw_t_17]; exact own_empty HBwt_15.out.size)
      have Dt_17_t_15 := Lib.hid (apart_fresh Ot_15.out)
      have HBw_t_17 := Lib.hid (Below.step HBwt_15.out bw_t_17)
      replace Ot_15 := Lib.hid (own_below Ot_15.out bw_t_17)
      clear bw_t_17
      go_wp2_with fail
      go_loopg [7, 8] (fuel) (fun m_ v7_ v8_ wr => ∃ (rates_7l0 : (List Int)) (rate_8l0 : Int) (Arates_7l0 : Option Addr) (crates_7l0 : Nat), v7_ = .slice Arates_7l0 rates_7l0.length crates_7l0 ∧ v8_ = .int .i64 rate_8l0 ∧ Hid (loopK (l0 most t_15) m_ (rates_7l0, rate_8l0) (e0 ) = some (r0, r1)) ∧ Hid (Below w.heap.size w wr) ∧ Hid (wr.ownsRow w.heap.size 3 1 (.slice Arates_7l0 rates_7l0.length crates_7l0) rates_7l0.length (Go.Proofs.Ytdgbigkcophjoaa.HelpInt.iv rates_7l0)) ∧ Hid (wr.ownsRow w.heap.size 3 1 (.slice At_15 t_15.length ct_15) t_15.length (Go.Proofs.Ytdgbigkcophjoaa.HelpInt.iv t_15)) ∧ Hid (Apart Arates_7l0 At_15))
      case atStart => exact ⟨_, _, _, _, rfl, rfl, H, HBw_t_17, Ot_17, Ot_15, Lib.hid Dt_17_t_15.out⟩
      case round =>
        obtain ⟨rates_7l0, rate_8l0, Arates_7l0, crates_7l0, rfl, rfl, H, HBwr0, Orates_7l0, Ot_15, Drates_7l0_t_15⟩ := hrel
        rename World => wr0
        cases gk with
        | zero => exact (loop_zero H).elim
        | succ m0 =>
          replace H := loop_succ H
          unfold l0 at H
          replace H := unp2_hid H
          replace H := let_hid H
          obtain ⟨t_22, ht_22, H⟩ := H
          cases t_22 with
          | false =>
            replace H := ite_f H
            replace H := app_hid H
            unfold e0 at H
            replace H := unp2_hid H
            cases ret_hid H
            go_wp2_with fail
            go_ret2
            exact ⟨Arates_7l0, crates_7l0, rfl, Orates_7l0.out, HBwr0.out⟩
          | true =>
            replace H := ite_t H
            replace H := idx_hid H
            obtain ⟨nt_25, yt_25, et_25, lt_25, gt_25, H⟩ := H
            subst et_25
            obtain ⟨qt_25, Qt_25⟩ := own_some Ot_15.out (by omega)
            subst Qt_25
            obtain ⟨ab_t_25, ao_t_25, zt_25, At_25, z_t_25, ct_25_0⟩ := Go.Proofs.Ytdgbigkcophjoaa.HelpInt.Ints.at_ (own_cells Ot_15.out) (k := nt_25) (by omega)
            obtain rfl := Option.some.inj (gt_25.out.symm.trans z_t_25)
            simp only [Option.some.injEq, Addr.mk.injEq] at At_25
            obtain ⟨rfl, rfl, _⟩ := At_25
            clear z_t_25
            simp only [Nat.zero_add] at ct_25_0
            have b0t_25 : (0 : Int) ≤ (nt_25 : Int) := by omega
            have b1t_25 : (nt_25 : Int) < ((t_15.length : Nat) : Int) := by omega
            have b2t_25 : ((nt_25 : Int)).toNat = nt_25 := by omega
            replace H := let_hid H
            obtain ⟨t_27, ht_27, H⟩ := H
            cases t_27 with
            | false =>
              replace H := ite_f H
              replace H := let_hid H
              obtain ⟨t_34, ht_34, H⟩ := H
              replace H := app_hid H
              go_wp2_with fail
              go_roundg m0
              case measure => omega
              case rel => exact ⟨_, _, _, _, rfl, rfl, H, HBwr0, Orates_7l0, Ot_15, Lib.hid Drates_7l0_t_15.out⟩
            | true =>
              replace H := ite_t H
              obtain ⟨w_t_30, hw_t_30⟩ : ∃ x, wr0.alloc (.cells #[.int .i64 (nt_25 : Int)] 3) = x := ⟨_, rfl⟩
              have bw_t_30 : Below wr0.heap.size wr0 w_t_30 := by rw [← hw_t_30]; exact (Below.refl _ _).alloc (Nat.le_refl _) _
              have HBw_t_30 := Lib.hid (Below.step HBwr0.out bw_t_30)
              have ct_25_0__153 := cell_below bw_t_30 ct_25_0
              replace Ot_15 := Lib.hid (own_below Ot_15.out bw_t_30)
              replace Orates_7l0 := Lib.hid (own_below Orates_7l0.out bw_t_30)
              clear bw_t_30
              replace H := guard_hid H
              obtain ⟨hlt_31, H⟩ := H
              replace H := let_hid H
              obtain ⟨t_31, ht_31, H⟩ := H
              have hht_31 := Lib.hid ht_31
              clear ht_31
              have hst_31 := HBw_t_30.out.size
              go_wp2_with (at_builtin; refine wpList_append_own_at _ rfl _ _ 29 rfl w.heap.size 3 i0_3 (.int .i64 0) 1 8 Try.underlying29 hi_3 hz0_3 hz1_3 hz2_3 rfl (by decide) _ _ _ rfl Orates_7l0.out ⟨wr0.heap.size, 0, none⟩ 1 1 [.int .i64 (nt_25 : Int)] rfl rfl (news_new hw_t_30) (one_cells rfl) (by unfold maxLen; omega) (by omega) hst_31 ?_; intro vt_31 wt_31 ot_31 gt_31 zt_31 yt_31; clear zt_31; obtain ⟨qt_31, ct_31, rfl, pt_31⟩ := own_push hht_31.out (Go.Proofs.Ytdgbigkcophjoaa.HelpInt.iv_snoc _ _) rfl ot_31; have Pt_31 := Lib.hid pt_31; have Yt_31 := Lib.hid yt_31; have Gt_31 := Lib.hid gt_31; clear ot_31 gt_31 pt_31 yt_31; refine stop_in ?_)
              refine stop_out ?_
              have HBwt_31 := Lib.hid (HBw_t_30.out.grown Gt_31.out hst_31 (fun q hq => (Orates_7l0.out.lt q hq).1))
              clear hst_31
              have Dt_31_t_15 : Hid (Apart (some ⟨qt_31, 0, none⟩) _) := Lib.hid (apart_app Drates_7l0_t_15.out (fun a_ ha_ => (own_lt Ot_15.out a_ ha_).2) Yt_31.out)
              replace ct_25_0__153 := cell_other ct_25_0__153 Gt_31.out Drates_7l0_t_15.out
              replace Ot_15 := Lib.hid (own_other Ot_15.out Gt_31.out Drates_7l0_t_15.out)
              clear ct_25_0
              clear Orates_7l0 Yt_31 Gt_31
              replace H := let_hid H
              obtain ⟨t_34, ht_34, H⟩ := H
              replace H := app_hid H
              go_wp2_with fail
              go_roundg m0
              case measure => omega
              case rel => exact ⟨_, _, _, _, rfl, rfl, H, HBwt_31, Pt_31, Ot_15, Lib.hid Dt_31_t_15.out⟩
end Go.Proofs.Ytdgbigkcophjoaa.GiCanFrank
