/- loop.example/g01062/spec.ValueOf as a plain function, and the contract of the program's: where the plain one has an answer, the program has it. Conditions: slices read as lists. -/
import Derived.Test.YtdgbigkcophjoaaChecked
import Derived.Test.YtdgbigkcophjoaaGoM
import Derived.Test.YtdgbigkcophjoaaGoRStamp
import Derived.Test.YtdgbigkcophjoaaHelpInt
import Derived.Test.YtdgbigkcophjoaaHelpStamp
import Derived.Test.YtdgbigkcophjoaaGsL2Stamps
import Derived.WalkKit
import Derived.WalkSpells
import Derived.WalkLawsBesides
import Derived.BigQuiet
import Derived.OwnWalk
import Derived.Deep.LoopGhost
import Derived.Deep.QuietTactic
import Derived.IntWalk
import Derived.Lib.QuietBelow
namespace Go.Proofs.Ytdgbigkcophjoaa.GsValueOf
set_option linter.unusedVariables false
set_option linter.unusedSimpArgs false
open Go.RowKit
open Go.Proofs.Ytdgbigkcophjoaa.Rowed Go.Proofs.Ytdgbigkcophjoaa.Turn Go.Proofs.Ytdgbigkcophjoaa.Aid Go.Proofs.Ytdgbigkcophjoaa.GoP Go.Proofs.Ytdgbigkcophjoaa.GoM

def l0 (list : (List Go.Proofs.Ytdgbigkcophjoaa.PlainStamp.St)) (franking : (List Int)) (k0 : Nat) (s : Int) (nx0 bk0 : Int → Option (Int × Bool)) : Option (Int × Bool) :=
  letK s fun sum_6l0 =>
  Option.bind (idx franking (k0 : Int)) fun (yt_20 : Int) =>
  letK (decide (yt_20 < 0)) fun (t_24 : Bool) =>
  joinK (fun (t_30 : Bool) =>
  joinK (fun (t_43 : Bool) =>
  iteK t_43
  (some (0, false))
  (Option.bind (idx list yt_20) fun (yt_49 : Go.Proofs.Ytdgbigkcophjoaa.PlainStamp.St) =>
  unStamp yt_49 fun (t_49_id : Int) (t_49_face : Int) (t_49_color : Int) (t_49_year : Int) =>
  letK (IntKind.i64.wrap (sum_6l0 + t_49_face)) fun (t_52 : Int) =>
  appK nx0 (t_52))) fun jt_43 => iteK t_30 (appK jt_43 true) (letK (decide (0 < (k0 : Int))) fun (t_33 : Bool) =>
  joinK (fun (t_42 : Bool) =>
  appK jt_43 t_42) fun jt_42 => iteK t_33 (letK (IntKind.i64.wrap ((k0 : Int) - 1)) fun (t_37 : Int) =>
  Option.bind (idx franking t_37) fun (yt_38 : Int) =>
  letK (decide (yt_20 < yt_38)) fun (t_41 : Bool) =>
  appK jt_42 t_41) (appK jt_42 false))) fun jt_30 => iteK t_24 (appK jt_30 true) (letK (decide ((list.length : Int) ≤ yt_20)) fun (t_29 : Bool) =>
  appK jt_30 t_29)

def e0  (s : Int) : Option (Int × Bool) :=
  letK s fun sum_6l0 =>
  some (sum_6l0, true)

def P (list : (List Go.Proofs.Ytdgbigkcophjoaa.PlainStamp.St)) (franking : (List Int)) : Option (Int × Bool) :=
  Option.bind (Go.Proofs.Ytdgbigkcophjoaa.GsL2Stamps.P list) fun (t_3 : Bool) =>
  letK (!t_3) fun (t_4 : Bool) =>
  joinK (fun (t_9 : Bool) =>
  iteK t_9
  (some (0, false))
  (cntK (l0 list franking) (franking.length) 0 (0) (e0 ))) fun jt_9 => iteK t_4 (appK jt_9 true) (letK (decide (40 < (franking.length : Int))) fun (t_8 : Bool) =>
  appK jt_9 t_8)

set_option maxRecDepth 100000 in
set_option maxHeartbeats 2000000 in
theorem C (list : (List Go.Proofs.Ytdgbigkcophjoaa.PlainStamp.St)) (franking : (List Int)) (A0 : Option Addr) (c0 : Nat) (A1 : Option Addr) (c1 : Nat)  (w : World) (M0 : Hid (Cells w 4 A0 list.length (Go.Proofs.Ytdgbigkcophjoaa.PlainStamp.flat list))) (N0 : Hid (list.length ≤ 9223372036854775807)) (M1 : Hid (Cells w 1 A1 franking.length (Go.Proofs.Ytdgbigkcophjoaa.HelpInt.iv franking))) (N1 : Hid (franking.length ≤ 9223372036854775807))  {r0 : Int} {r1 : Bool} (H : Hid (P list franking = some (r0, r1))) :
    Calls Try.prog 27 #[.slice A0 list.length c0, .slice A1 franking.length c1] w (Gives (.tuple #[.int .i64 r0, .bool r1]) w) := by
  have HB := Lib.hid (Below.refl w.heap.size w)
  unfold P at H
  have N0o := N0.out
  have N1o := N1.out
  go_enter Try.func27, Try.ntmps27
  replace H := bind_hid H
  obtain ⟨t_3, qt_3, H⟩ := H
  go_wp2_with fail
  go_at_call 61
  refine (Go.Proofs.Ytdgbigkcophjoaa.GsL2Stamps.C (list) A0 c0 _   (Lib.hid (Cells.below M0.out HB.out)) N0 qt_3).mono ?_
  rintro e_t_3 wt_3 ⟨rfl, bt_3⟩
  have HBwt_3 := Lib.hid (Below.step HB.out bt_3)
  clear bt_3
  cases t_3 with
  | false =>
    replace H := let_hid H
    obtain ⟨t_4, ht_4, H⟩ := H
    obtain rfl : t_4 = true := ht_4.symm
    replace H := join_hid H
    replace H := ite_t H
    replace H := app_hid H
    replace H := ite_t H
    cases ret_hid H
    go_wp2_with fail
    go_ret2
    exact ⟨rfl, HBwt_3.out⟩
  | true =>
    replace H := let_hid H
    obtain ⟨t_4, ht_4, H⟩ := H
    obtain rfl : t_4 = false := ht_4.symm
    replace H := join_hid H
    replace H := ite_f H
    replace H := let_hid H
    obtain ⟨t_8, ht_8, H⟩ := H
    replace H := app_hid H
    cases t_8 with
    | false =>
      have nht_8 : ¬ (40 < franking.length) := by have := of_decide_eq_false ht_8; omega
      replace H := ite_f H
      go_wp2_with fail
      go_loopg [7, 6] (franking.length) (fun m_ v7_ v6_ wr => ∃ (k0 : Nat) (sum_6l0 : Int), k0 + m_ = franking.length ∧ v7_ = .int .i64 (k0 : Int) ∧ v6_ = .int .i64 sum_6l0 ∧ Hid (cntK (l0 list franking) m_ k0 (sum_6l0) (e0 ) = some (r0, r1)) ∧ Hid (Below w.heap.size w wr))
      case atStart => exact ⟨0, _, by omega, rfl, rfl, H, HBwt_3⟩
      case round =>
        obtain ⟨k0, sum_6l0, hkm0, rfl, rfl, H, HBwr0⟩ := hrel
        rename World => wr0
        cases gk with
        | zero =>
          obtain rfl : k0 = franking.length := by omega
          have hc0 : decide (((franking.length : Nat) : Int) < ((franking.length : Nat) : Int)) = false := by simp
          replace H := cnt_zero H
          unfold e0 at H
          replace H := let_hid H
          obtain ⟨_, rfl, H⟩ := H
          cases ret_hid H
          go_wp2_with fail
          go_ret2
          exact ⟨rfl, HBwr0.out⟩
        | succ m0 =>
          have hlt0 : k0 < franking.length := by omega
          have hc0 : decide ((k0 : Int) < ((franking.length : Nat) : Int)) = true := by simp; omega
          replace H := cnt_succ H
          unfold l0 at H
          replace H := let_hid H
          obtain ⟨_, rfl, H⟩ := H
          replace H := idx_hid H
          obtain ⟨nt_20, yt_20, et_20, lt_20, gt_20, H⟩ := H
          obtain rfl : k0 = nt_20 := by omega
          clear et_20
          obtain ⟨ab_t_20, ao_t_20, zt_20, At_20, z_t_20, ct_20_0⟩ := Go.Proofs.Ytdgbigkcophjoaa.HelpInt.Ints.at_ M1.out lt_20
          obtain rfl := Option.some.inj (gt_20.out.symm.trans z_t_20)
          subst At_20
          have ltt_20 := cell_lt ct_20_0
          replace ct_20_0 := cell_below HBwr0.out ct_20_0
          clear z_t_20
          have b0t_20 : (0 : Int) ≤ (k0 : Int) := by omega
          have b1t_20 : (k0 : Int) < ((franking.length : Nat) : Int) := by omega
          have b2t_20 : ((k0 : Int)).toNat = k0 := by omega
          replace H := let_hid H
          obtain ⟨t_24, ht_24, H⟩ := H
          replace H := join_hid H
          cases t_24 with
          | false =>
            replace H := ite_f H
            replace H := let_hid H
            obtain ⟨t_29, ht_29, H⟩ := H
            replace H := app_hid H
            replace H := join_hid H
            cases t_29 with
            | false =>
              replace H := ite_f H
              replace H := let_hid H
              obtain ⟨t_33, ht_33, H⟩ := H
              replace H := join_hid H
              cases t_33 with
              | false =>
                have nht_33 : ¬ (0 < k0) := by have := of_decide_eq_false ht_33; omega
                replace H := ite_f H
                replace H := app_hid H
                replace H := app_hid H
                replace H := ite_f H
                replace H := idx_hid H
                obtain ⟨nt_49, yt_49, et_49, lt_49, gt_49, H⟩ := H
                subst et_49
                have nc_144 : ¬ (nt_49 < 0) := by have := of_decide_eq_false ht_24; omega
                have nc_145 : ¬ (list.length ≤ nt_49) := by have := of_decide_eq_false ht_29; omega
                obtain ⟨t_49_id, t_49_face, t_49_color, t_49_year⟩ := yt_49
                replace H := unStamp_hid H
                obtain ⟨ab_t_49, ao_t_49, zt_49, At_49, z_t_49, ct_49_0, ct_49_1, ct_49_2, ct_49_3⟩ := Go.Proofs.Ytdgbigkcophjoaa.HelpStamp.Sts.at_ M0.out lt_49
                obtain rfl := Option.some.inj (gt_49.out.symm.trans z_t_49)
                subst At_49
                have ltt_49 := cell_lt ct_49_0
                replace ct_49_0 := cell_below HBwr0.out ct_49_0
                replace ct_49_1 := cell_below HBwr0.out ct_49_1
                replace ct_49_2 := cell_below HBwr0.out ct_49_2
                replace ct_49_3 := cell_below HBwr0.out ct_49_3
                clear z_t_49
                have b0t_49 : (0 : Int) ≤ (nt_49 : Int) := by omega
                have b1t_49 : (nt_49 : Int) < ((list.length : Nat) : Int) := by omega
                have b2t_49 : ((nt_49 : Int)).toNat = nt_49 := by omega
                replace H := let_hid H
                obtain ⟨t_52, ht_52, H⟩ := H
                replace H := app_hid H
                go_wp2_with fail
                go_roundg m0
                case measure => omega
                case rel => exact ⟨k0 + 1, _, by omega, by go_num, rfl, H, HBwr0⟩
              | true =>
                have nht_33 : 0 < k0 := by have := of_decide_eq_true ht_33; omega
                replace H := ite_t H
                replace H := let_hid H
                obtain ⟨t_37, ht_37, H⟩ := H
                replace H := idx_hid H
                obtain ⟨nt_38, yt_38, et_38, lt_38, gt_38, H⟩ := H
                subst et_38
                obtain ⟨ab_t_38, ao_t_38, zt_38, At_38, z_t_38, ct_38_0⟩ := Go.Proofs.Ytdgbigkcophjoaa.HelpInt.Ints.at_ M1.out lt_38
                obtain rfl := Option.some.inj (gt_38.out.symm.trans z_t_38)
                simp only [Option.some.injEq, Addr.mk.injEq] at At_38
                obtain ⟨rfl, rfl, _⟩ := At_38
                have ltt_38 := cell_lt ct_38_0
                replace ct_38_0 := cell_below HBwr0.out ct_38_0
                clear z_t_38
                have b0t_38 : (0 : Int) ≤ (nt_38 : Int) := by omega
                have b1t_38 : (nt_38 : Int) < ((franking.length : Nat) : Int) := by omega
                have b2t_38 : ((nt_38 : Int)).toNat = nt_38 := by omega
                replace H := let_hid H
                obtain ⟨t_41, ht_41, H⟩ := H
                replace H := app_hid H
                replace H := app_hid H
                cases t_41 with
                | false =>
                  replace H := ite_f H
                  replace H := idx_hid H
                  obtain ⟨nt_49, yt_49, et_49, lt_49, gt_49, H⟩ := H
                  subst et_49
                  have nc_146 : ¬ (nt_49 < 0) := by have := of_decide_eq_false ht_24; omega
                  have nc_147 : ¬ (list.length ≤ nt_49) := by have := of_decide_eq_false ht_29; omega
                  obtain ⟨t_49_id, t_49_face, t_49_color, t_49_year⟩ := yt_49
                  replace H := unStamp_hid H
                  obtain ⟨ab_t_49, ao_t_49, zt_49, At_49, z_t_49, ct_49_0, ct_49_1, ct_49_2, ct_49_3⟩ := Go.Proofs.Ytdgbigkcophjoaa.HelpStamp.Sts.at_ M0.out lt_49
                  obtain rfl := Option.some.inj (gt_49.out.symm.trans z_t_49)
                  subst At_49
                  have ltt_49 := cell_lt ct_49_0
                  replace ct_49_0 := cell_below HBwr0.out ct_49_0
                  replace ct_49_1 := cell_below HBwr0.out ct_49_1
                  replace ct_49_2 := cell_below HBwr0.out ct_49_2
                  replace ct_49_3 := cell_below HBwr0.out ct_49_3
                  clear z_t_49
                  have b0t_49 : (0 : Int) ≤ (nt_49 : Int) := by omega
                  have b1t_49 : (nt_49 : Int) < ((list.length : Nat) : Int) := by omega
                  have b2t_49 : ((nt_49 : Int)).toNat = nt_49 := by omega
                  replace H := let_hid H
                  obtain ⟨t_52, ht_52, H⟩ := H
                  replace H := app_hid H
                  go_wp2_with fail
                  go_roundg m0
                  case measure => omega
                  case rel => exact ⟨k0 + 1, _, by omega, by go_num, rfl, H, HBwr0⟩
                | true =>
                  replace H := ite_t H
                  cases ret_hid H
                  go_wp2_with fail
                  go_ret2
                  exact ⟨rfl, HBwr0.out⟩
            | true =>
              replace H := ite_t H
              replace H := app_hid H
              replace H := ite_t H
              cases ret_hid H
              go_wp2_with fail
              go_ret2
              exact ⟨rfl, HBwr0.out⟩
          | true =>
            replace H := ite_t H
            replace H := app_hid H
            replace H := join_hid H
            replace H := ite_t H
            replace H := app_hid H
            replace H := ite_t H
            cases ret_hid H
            go_wp2_with fail
            go_ret2
            exact ⟨rfl, HBwr0.out⟩
    | true =>
      have nht_8 : 40 < franking.length := by have := of_decide_eq_true ht_8; omega
      replace H := ite_t H
      cases ret_hid H
      go_wp2_with fail
      go_ret2
      exact ⟨rfl, HBwt_3.out⟩
end Go.Proofs.Ytdgbigkcophjoaa.GsValueOf
