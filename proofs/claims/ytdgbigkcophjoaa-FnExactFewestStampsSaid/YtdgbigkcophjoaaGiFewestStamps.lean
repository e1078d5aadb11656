/- loop.example/g01062/impl.FewestStamps as a plain function, and the contract of the program's: where the plain one has an answer, the program has it. Conditions: slices read as lists. -/
import Derived.Test.YtdgbigkcophjoaaChecked
import Derived.Test.YtdgbigkcophjoaaGoM
import Derived.Test.YtdgbigkcophjoaaGoRStamp
import Derived.Test.YtdgbigkcophjoaaHelpInt
import Derived.Test.YtdgbigkcophjoaaGiAreStamps
import Derived.Test.YtdgbigkcophjoaaGiWithin
import Derived.Test.YtdgbigkcophjoaaGiFewestByValue
import Derived.Test.YtdgbigkcophjoaaGiFirstFranking
import Derived.WalkKit
import Derived.WalkSpells
import Derived.WalkLawsBesides
import Derived.BigQuiet
import Derived.OwnWalk
import Derived.Deep.LoopGhost
import Derived.Deep.QuietTactic
import Derived.IntWalk
import Derived.Lib.QuietBelow
namespace Go.Proofs.Ytdgbigkcophjoaa.GiFewestStamps
set_option linter.unusedVariables false
set_option linter.unusedSimpArgs false
open Go.RowKit
open Go.Proofs.Ytdgbigkcophjoaa.Rowed Go.Proofs.Ytdgbigkcophjoaa.Turn Go.Proofs.Ytdgbigkcophjoaa.Aid Go.Proofs.Ytdgbigkcophjoaa.GoP Go.Proofs.Ytdgbigkcophjoaa.GoM

def P (fuel : Nat) (list : (List Go.Proofs.Ytdgbigkcophjoaa.PlainStamp.St)) (rate : Int) (year : Int) : Option ((List Int) × Bool) :=
  Option.bind (Go.Proofs.Ytdgbigkcophjoaa.GiAreStamps.P list) fun (t_3 : Bool) =>
  letK (!t_3) fun (t_4 : Bool) =>
  joinK (fun (t_9 : Bool) =>
  joinK (fun (t_14 : Bool) =>
  iteK t_14
  (some (([] : List Int), false))
  (Option.bind (Go.Proofs.Ytdgbigkcophjoaa.GiFewestByValue.P fuel list year rate) fun (t_21 : (List Int)) =>
  Option.bind (idx t_21 rate) fun (yt_25 : Int) =>
  letK (decide (40 < yt_25)) fun (t_27 : Bool) =>
  iteK t_27
  (some (([] : List Int), false))
  (Option.bind (Go.Proofs.Ytdgbigkcophjoaa.GiFirstFranking.P fuel list year t_21 rate) fun (t_35 : (List Int)) =>
  some (t_35, true)))) fun jt_14 => iteK t_9 (appK jt_14 true) (Option.bind (Go.Proofs.Ytdgbigkcophjoaa.GiWithin.P year 1840 2100) fun (t_12 : Bool) =>
  letK (!t_12) fun (t_13 : Bool) =>
  appK jt_14 t_13)) fun jt_9 => iteK t_4 (appK jt_9 true) (Option.bind (Go.Proofs.Ytdgbigkcophjoaa.GiWithin.P rate 1 2000) fun (t_7 : Bool) =>
  letK (!t_7) fun (t_8 : Bool) =>
  appK jt_9 t_8)

set_option maxRecDepth 100000 in
set_option maxHeartbeats 2000000 in
theorem C (fuel : Nat) (list : (List Go.Proofs.Ytdgbigkcophjoaa.PlainStamp.St)) (rate : Int) (year : Int) (A0 : Option Addr) (c0 : Nat)  (w : World) (M0 : Hid (Cells w 4 A0 list.length (Go.Proofs.Ytdgbigkcophjoaa.PlainStamp.flat list))) (N0 : Hid (list.length ≤ 9223372036854775807))  {r0 : (List Int)} {r1 : Bool} (H : Hid (P fuel list rate year = some (r0, r1))) :
    Calls Try.prog 22 #[.slice A0 list.length c0, .int .i64 rate, .int .i64 year] w (fun e w' => ∃ A_r0 c_r0, e = .returned (.tuple #[.slice A_r0 r0.length c_r0, .bool r1]) ∧ w'.ownsRow w.heap.size 3 1 (.slice A_r0 r0.length c_r0) r0.length (Go.Proofs.Ytdgbigkcophjoaa.HelpInt.iv r0) ∧ Below w.heap.size w w') := by
  have HB := Lib.hid (Below.refl w.heap.size w)
  unfold P at H
  have N0o := N0.out
  go_enter Try.func22, Try.ntmps22
  replace H := bind_hid H
  obtain ⟨t_3, qt_3, H⟩ := H
  go_wp2_with fail
  go_at_call 19
  refine (Go.Proofs.Ytdgbigkcophjoaa.GiAreStamps.C (list) A0 c0 _   (Lib.hid (Cells.below M0.out HB.out)) N0 qt_3).mono ?_
  rintro e_t_3 wt_3 ⟨rfl, bt_3⟩
  have HBwt_3 := Lib.hid (Below.step HB.out bt_3)
  clear bt_3
  cases t_3 with
  | false =>
    replace H := let_hid H
    obtain ⟨t_4, ht_4, H⟩ := H
    obtain rfl : t_4 = true := ht_4.symm
    replace H := join_hid H
    replace H := ite_t H
    replace H := app_hid H
    replace H := join_hid H
    replace H := ite_t H
    replace H := app_hid H
    replace H := ite_t H
    obtain ⟨w_t_15, hw_t_15⟩ : ∃ x, wt_3.alloc (.cells #[] 3) = x := ⟨_, rfl⟩
    have bw_t_15 : Below wt_3.heap.size wt_3 w_t_15 := by rw [← hw_t_15]; exact (Below.refl _ _).alloc (Nat.le_refl _) _
    have Ot_15 : Hid (w_t_15.ownsRow w.heap.size 3 1 (.slice (some ⟨wt_3.heap.size, 0, none⟩) 0 0) 0 []) := Lib.hid (by rw [← hw_t_15]; exact own_empty HBwt_3.out.size)
    have HBw_t_15 := Lib.hid (Below.step HBwt_3.out bw_t_15)
    clear bw_t_15
    cases ret_hid H
    go_wp2_with fail
    go_ret2
    exact ⟨(some ⟨wt_3.heap.size, 0, none⟩), 0, rfl, Ot_15.out, HBw_t_15.out⟩
  | true =>
    replace H := let_hid H
    obtain ⟨t_4, ht_4, H⟩ := H
    obtain rfl : t_4 = false := ht_4.symm
    replace H := join_hid H
    replace H := ite_f H
    replace H := bind_hid H
    obtain ⟨t_7, qt_7, H⟩ := H
    go_wp2_with fail
    go_at_call 71
    refine (Go.Proofs.Ytdgbigkcophjoaa.GiWithin.C (rate) (1) (2000)  _    qt_7).mono ?_
    rintro e_t_7 wt_7 ⟨rfl, bt_7⟩
    have HBwt_7 := Lib.hid (Below.step HBwt_3.out bt_7)
    clear bt_7
    cases t_7 with
    | false =>
      replace H := let_hid H
      obtain ⟨t_8, ht_8, H⟩ := H
      obtain rfl : t_8 = true := ht_8.symm
      replace H := app_hid H
      replace H := join_hid H
      replace H := ite_t H
      replace H := app_hid H
      replace H := ite_t H
      obtain ⟨w_t_15, hw_t_15⟩ : ∃ x, wt_7.alloc (.cells #[] 3) = x := ⟨_, rfl⟩
      have bw_t_15 : Below wt_7.heap.size wt_7 w_t_15 := by rw [← hw_t_15]; exact (Below.refl _ _).alloc (Nat.le_refl _) _
      have Ot_15 : Hid (w_t_15.ownsRow w.heap.size 3 1 (.slice (some ⟨wt_7.heap.size, 0, none⟩) 0 0) 0 []) := Lib.hid (by rw [← hw_t_15]; exact own_empty HBwt_7.out.size)
      have HBw_t_15 := Lib.hid (Below.step HBwt_7.out bw_t_15)
      clear bw_t_15
      cases ret_hid H
      go_wp2_with fail
      go_ret2
      exact ⟨(some ⟨wt_7.heap.size, 0, none⟩), 0, rfl, Ot_15.out, HBw_t_15.out⟩
    | true =>
      replace H := let_hid H
      obtain ⟨t_8, ht_8, H⟩ := H
      obtain rfl : t_8 = false := ht_8.symm
      replace H := app_hid H
      replace H := join_hid H
      replace H := ite_f H
      replace H := bind_hid H
      obtain ⟨t_12, qt_12, H⟩ := H
      go_wp2_with fail
      go_at_call 71
      refine (Go.Proofs.Ytdgbigkcophjoaa.GiWithin.C (year) (1840) (2100)  _    qt_12).mono ?_
      rintro e_t_12 wt_12 ⟨rfl, bt_12⟩
      have HBwt_12 := Lib.hid (Below.step HBwt_7.out bt_12)
      clear bt_12
      cases t_12 with
      | false =>
        replace H := let_hid H
        obtain ⟨t_13, ht_13, H⟩ := H
        obtain rfl : t_13 = true := ht_13.symm
        replace H := app_hid H
        replace H := ite_t H
        obtain ⟨w_t_15, hw_t_15⟩ : ∃ x, wt_12.alloc (.cells #[] 3) = x := ⟨_, rfl⟩
        have bw_t_15 : Below wt_12.heap.size wt_12 w_t_15 := by rw [← hw_t_15]; exact (Below.refl _ _).alloc (Nat.le_refl _) _
        have Ot_15 : Hid (w_t_15.ownsRow w.heap.size 3 1 (.slice (some ⟨wt_12.heap.size, 0, none⟩) 0 0) 0 []) := Lib.hid (by rw [← hw_t_15]; exact own_empty HBwt_12.out.size)
        have HBw_t_15 := Lib.hid (Below.step HBwt_12.out bw_t_15)
        clear bw_t_15
        cases ret_hid H
        go_wp2_with fail
        go_ret2
        exact ⟨(some ⟨wt_12.heap.size, 0, none⟩), 0, rfl, Ot_15.out, HBw_t_15.out⟩
      | true =>
        replace H := let_hid H
        obtain ⟨t_13, ht_13, H⟩ := H
        obtain rfl : t_13 = false := ht_13.symm
        replace H := app_hid H
        replace H := ite_f H
        replace H := bind_hid H
        obtain ⟨t_21, qt_21, H⟩ := H
        go_wp2_with fail
        go_at_call 72
        refine (Go.Proofs.Ytdgbigkcophjoaa.GiFewestByValue.C fuel (list) (year) (rate) A0 c0 _   (Lib.hid (Cells.below M0.out HBwt_12.out)) N0 qt_21).mono ?_
        rintro e_t_21 wt_21 ⟨At_21, ct_21, rfl, ot_21, bt_21⟩
        have Ot_21 := Lib.hid (own_lower ot_21 HBwt_12.out.size)
        clear ot_21
        have HBwt_21 := Lib.hid (Below.step HBwt_12.out bt_21)
        clear bt_21
        replace H := idx_hid H
        obtain ⟨nt_25, yt_25, et_25, lt_25, gt_25, H⟩ := H
        subst et_25
        obtain ⟨qt_25, Qt_25⟩ := own_some Ot_21.out (by omega)
        subst Qt_25
        obtain ⟨ab_t_25, ao_t_25, zt_25, At_25, z_t_25, ct_25_0⟩ := Go.Proofs.Ytdgbigkcophjoaa.HelpInt.Ints.at_ (own_cells Ot_21.out) (k := nt_25) (by omega)
        obtain rfl := Option.some.inj (gt_25.out.symm.trans z_t_25)
        simp only [Option.some.injEq, Addr.mk.injEq] at At_25
        obtain ⟨rfl, rfl, _⟩ := At_25
        clear z_t_25
        simp only [Nat.zero_add] at ct_25_0
        have b0t_25 : (0 : Int) ≤ (nt_25 : Int) := by omega
        have b1t_25 : (nt_25 : Int) < ((t_21.length : Nat) : Int) := by omega
        have b2t_25 : ((nt_25 : Int)).toNat = nt_25 := by omega
        replace H := let_hid H
        obtain ⟨t_27, ht_27, H⟩ := H
        cases t_27 with
        | false =>
          replace H := ite_f H
          replace H := bind_hid H
          obtain ⟨t_35, qt_35, H⟩ := H
          go_wp2_with fail
          go_at_call 73
          refine (Go.Proofs.Ytdgbigkcophjoaa.GiFirstFranking.C fuel (list) (year) (t_21) ((nt_25 : Int)) A0 c0 (some ⟨qt_25, 0, none⟩) ct_21 _   (Lib.hid (Cells.below M0.out HBwt_21.out)) N0 (Lib.hid (own_cells Ot_21.out)) (Lib.hid (own_max Ot_21.out)) qt_35).mono ?_
          rintro e_t_35 wt_35 ⟨At_35, ct_35, rfl, ot_35, bt_35⟩
          have Dt_35_t_21 := Lib.hid (apart_call ot_35 Ot_21.out)
          have Ot_35 := Lib.hid (own_lower ot_35 HBwt_21.out.size)
          clear ot_35
          have HBwt_35 := Lib.hid (Below.step HBwt_21.out bt_35)
          replace ct_25_0 := cell_below bt_35 ct_25_0
          replace Ot_21 := Lib.hid (own_below Ot_21.out bt_35)
          clear bt_35
          cases ret_hid H
          go_wp2_with fail
          go_ret2
          exact ⟨At_35, ct_35, rfl, Ot_35.out, HBwt_35.out⟩
        | true =>
          replace H := ite_t H
          obtain ⟨w_t_28, hw_t_28⟩ : ∃ x, wt_21.alloc (.cells #[] 3) = x := ⟨_, rfl⟩
          have bw_t_28 : Below wt_21.heap.size wt_21 w_t_28 := by rw [← hw_t_28]; exact (Below.refl _ _).alloc (Nat.le_refl _) _
          have Ot_28 : Hid (w_t_28.ownsRow w.heap.size 3 1 (.slice (some ⟨wt_21.heap.size, 0, none⟩) 0 0) 0 []) := Lib.hid (by rw [← hw_t_28]; exact own_empty HBwt_21.out.size)
          have Dt_28_t_21 := Lib.hid (apart_fresh Ot_21.out)
          have HBw_t_28 := Lib.hid (Below.step HBwt_21.out bw_t_28)
          have ct_25_0__142 := cell_below bw_t_28 ct_25_0
          replace Ot_21 := Lib.hid (own_below Ot_21.out bw_t_28)
          clear bw_t_28
          cases ret_hid H
          go_wp2_with fail
          go_ret2
          exact ⟨(some ⟨wt_21.heap.size, 0, none⟩), 0, rfl, Ot_28.out, HBw_t_28.out⟩
end Go.Proofs.Ytdgbigkcophjoaa.GiFewestStamps
