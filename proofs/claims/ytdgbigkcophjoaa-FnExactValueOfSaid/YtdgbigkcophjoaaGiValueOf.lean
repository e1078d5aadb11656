/- loop.example/g01062/impl.ValueOf as a plain function, and the contract of the program's: where the plain one has an answer, the program has it. Conditions: slices read as lists. -/
import Derived.Test.YtdgbigkcophjoaaChecked
import Derived.Test.YtdgbigkcophjoaaGoM
import Derived.Test.YtdgbigkcophjoaaGoRStamp
import Derived.Test.YtdgbigkcophjoaaHelpInt
import Derived.Test.YtdgbigkcophjoaaHelpStamp
import Derived.Test.YtdgbigkcophjoaaGiAreStamps
import Derived.Test.YtdgbigkcophjoaaGiWithin
import Derived.WalkKit
import Derived.WalkSpells
import Derived.WalkLawsBesides
import Derived.BigQuiet
import Derived.OwnWalk
import Derived.Deep.LoopGhost
import Derived.Deep.QuietTactic
import Derived.IntWalk
import Derived.Lib.QuietBelow
namespace Go.Proofs.Ytdgbigkcophjoaa.GiValueOf
set_option linter.unusedVariables false
set_option linter.unusedSimpArgs false
open Go.RowKit
open Go.Proofs.Ytdgbigkcophjoaa.Rowed Go.Proofs.Ytdgbigkcophjoaa.Turn Go.Proofs.Ytdgbigkcophjoaa.Aid Go.Proofs.Ytdgbigkcophjoaa.GoP Go.Proofs.Ytdgbigkcophjoaa.GoM

def l0 (list : (List Go.Proofs.Ytdgbigkcophjoaa.PlainStamp.St)) (franking : (List Int)) (k0 : Nat) (s : Int × Int) (nx0 bk0 : Int × Int → Option (Int × Bool)) : Option (Int × Bool) :=
  unp2 s fun value_6l0 least_7l0 =>
  Option.bind (idx franking (k0 : Int)) fun (yt_18 : Int) =>
  letK (IntKind.i64.wrap ((list.length : Int) - 1)) fun (t_25 : Int) =>
  Option.bind (Go.Proofs.Ytdgbigkcophjoaa.GiWithin.P yt_18 least_7l0 t_25) fun (t_26 : Bool) =>
  letK (!t_26) fun (t_27 : Bool) =>
  iteK t_27
  (some (0, false))
  (Option.bind (idx list yt_18) fun (yt_33 : Go.Proofs.Ytdgbigkcophjoaa.PlainStamp.St) =>
  unStamp yt_33 fun (t_33_id : Int) (t_33_face : Int) (t_33_color : Int) (t_33_year : Int) =>
  letK (IntKind.i64.wrap (value_6l0 + t_33_face)) fun (t_36 : Int) =>
  appK nx0 (t_36, yt_18))

def e0  (s : Int × Int) : Option (Int × Bool) :=
  unp2 s fun value_6l0 least_7l0 =>
  some (value_6l0, true)

def P (list : (List Go.Proofs.Ytdgbigkcophjoaa.PlainStamp.St)) (franking : (List Int)) : Option (Int × Bool) :=
  Option.bind (Go.Proofs.Ytdgbigkcophjoaa.GiAreStamps.P list) fun (t_3 : Bool) =>
  letK (!t_3) fun (t_4 : Bool) =>
  joinK (fun (t_9 : Bool) =>
  iteK t_9
  (some (0, false))
  (cntK (l0 list franking) (franking.length) 0 (0, 0) (e0 ))) fun jt_9 => iteK t_4 (appK jt_9 true) (letK (decide (40 < (franking.length : Int))) fun (t_8 : Bool) =>
  appK jt_9 t_8)

set_option maxRecDepth 100000 in
set_option maxHeartbeats 2000000 in
theorem C (list : (List Go.Proofs.Ytdgbigkcophjoaa.PlainStamp.St)) (franking : (List Int)) (A0 : Option Addr) (c0 : Nat) (A1 : Option Addr) (c1 : Nat)  (w : World) (M0 : Hid (Cells w 4 A0 list.length (Go.Proofs.Ytdgbigkcophjoaa.PlainStamp.flat list))) (N0 : Hid (list.length ≤ 9223372036854775807)) (M1 : Hid (Cells w 1 A1 franking.length (Go.Proofs.Ytdgbigkcophjoaa.HelpInt.iv franking))) (N1 : Hid (franking.length ≤ 9223372036854775807))  {r0 : Int} {r1 : Bool} (H : Hid (P list franking = some (r0, r1))) :
    Calls Try.prog 29 #[.slice A0 list.length c0, .slice A1 franking.length c1] w (Gives (.tuple #[.int .i64 r0, .bool r1]) w) := by
  have HB := Lib.hid (Below.refl w.heap.size w)
  unfold P at H
  have N0o := N0.out
  have N1o := N1.out
  go_enter Try.func29, Try.ntmps29
  replace H := bind_hid H
  obtain ⟨t_3, qt_3, H⟩ := H
  go_wp2_with fail
  go_at_call 19
  refine (Go.Proofs.Ytdgbigkcophjoaa.GiAreStamps.C (list) A0 c0 _   (Lib.hid (Cells.below M0.out HB.out)) N0 qt_3).mono ?_
  rintro e_t_3 wt_3 ⟨rfl, bt_3⟩
  have HBwt_3 := Lib.hid (Below.step HB.out bt_3)
  clear bt_3
  cases t_3 with
  | false =>
    replace H := let_hid H
    obtain ⟨t_4, ht_4, H⟩ := H
    obtain rfl : t_4 = true := ht_4.symm
    replace H := join_hid H
    replace H := ite_t H
    replace H := app_hid H
    replace H := ite_t H
    cases ret_hid H
    go_wp2_with fail
    go_ret2
    exact ⟨rfl, HBwt_3.out⟩
  | true =>
    replace H := let_hid H
    obtain ⟨t_4, ht_4, H⟩ := H
    obtain rfl : t_4 = false := ht_4.symm
    replace H := join_hid H
    replace H := ite_f H
    replace H := let_hid H
    obtain ⟨t_8, ht_8, H⟩ := H
    replace H := app_hid H
    cases t_8 with
    | false =>
      have nht_8 : ¬ (40 < franking.length) := by have := of_decide_eq_false ht_8; omega
      replace H := ite_f H
      go_wp2_with fail
      go_loopg [20, 6, 7] (franking.length) (fun m_ v20_ v6_ v7_ wr => ∃ (k0 : Nat) (value_6l0 : Int) (least_7l0 : Int), k0 + m_ = franking.length ∧ v20_ = .int .i64 (k0 : Int) ∧ v6_ = .int .i64 value_6l0 ∧ v7_ = .int .i64 least_7l0 ∧ Hid (cntK (l0 list franking) m_ k0 (value_6l0, least_7l0) (e0 ) = some (r0, r1)) ∧ Hid (Below w.heap.size w wr))
      case atStart => exact ⟨0, _, _, by omega, rfl, rfl, rfl, H, HBwt_3⟩
      case round =>
        obtain ⟨k0, value_6l0, least_7l0, hkm0, rfl, rfl, rfl, H, HBwr0⟩ := hrel
        rename World => wr0
        cases gk with
        | zero =>
          obtain rfl : k0 = franking.length := by omega
          have hc0 : decide (((franking.length : Nat) : Int) < ((franking.length : Nat) : Int)) = false := by simp
          replace H := cnt_zero H
          unfold e0 at H
          replace H := unp2_hid H
          cases ret_hid H
          go_wp2_with fail
          go_ret2
          exact ⟨rfl, HBwr0.out⟩
        | succ m0 =>
          have hlt0 : k0 < franking.length := by omega
          have hc0 : decide ((k0 : Int) < ((franking.length : Nat) : Int)) = true := by simp; omega
          replace H := cnt_succ H
          unfold l0 at H
          replace H := unp2_hid H
          replace H := idx_hid H
          obtain ⟨nt_18, yt_18, et_18, lt_18, gt_18, H⟩ := H
          obtain rfl : k0 = nt_18 := by omega
          clear et_18
          obtain ⟨ab_t_18, ao_t_18, zt_18, At_18, z_t_18, ct_18_0⟩ := Go.Proofs.Ytdgbigkcophjoaa.HelpInt.Ints.at_ M1.out lt_18
          obtain rfl := Option.some.inj (gt_18.out.symm.trans z_t_18)
          subst At_18
          have ltt_18 := cell_lt ct_18_0
          replace ct_18_0 := cell_below HBwr0.out ct_18_0
          clear z_t_18
          have b0t_18 : (0 : Int) ≤ (k0 : Int) := by omega
          have b1t_18 : (k0 : Int) < ((franking.length : Nat) : Int) := by omega
          have b2t_18 : ((k0 : Int)).toNat = k0 := by omega
          replace H := let_hid H
          obtain ⟨t_25, ht_25, H⟩ := H
          try have hv_t_25 : (list.length : Int) - 1 = t_25 := by rw [← ht_25]; exact (IntWalk.i64_in _ (by omega)).symm
          try have hv2_t_25 : IntKind.i64.wrap t_25 = t_25 := by rw [← hv_t_25]; exact IntWalk.i64_in _ (by omega)
          replace H := bind_hid H
          obtain ⟨t_26, qt_26, H⟩ := H
          go_wp2_with fail
          go_at_call 71
          refine (Go.Proofs.Ytdgbigkcophjoaa.GiWithin.C (yt_18) (least_7l0) (t_25)  _    qt_26).mono ?_
          rintro e_t_26 wt_26 ⟨rfl, bt_26⟩
          have HBwt_26 := Lib.hid (Below.step HBwr0.out bt_26)
          replace ct_18_0 := cell_below bt_26 ct_18_0
          clear bt_26
          cases t_26 with
          | false =>
            replace H := let_hid H
            obtain ⟨t_27, ht_27, H⟩ := H
            obtain rfl : t_27 = true := ht_27.symm
            replace H := ite_t H
            cases ret_hid H
            go_wp2_with fail
            go_ret2
            exact ⟨rfl, HBwt_26.out⟩
          | true =>
            replace H := let_hid H
            obtain ⟨t_27, ht_27, H⟩ := H
            obtain rfl : t_27 = false := ht_27.symm
            replace H := ite_f H
            replace H := idx_hid H
            obtain ⟨nt_33, yt_33, et_33, lt_33, gt_33, H⟩ := H
            subst et_33
            obtain ⟨t_33_id, t_33_face, t_33_color, t_33_year⟩ := yt_33
            replace H := unStamp_hid H
            obtain ⟨ab_t_33, ao_t_33, zt_33, At_33, z_t_33, ct_33_0, ct_33_1, ct_33_2, ct_33_3⟩ := Go.Proofs.Ytdgbigkcophjoaa.HelpStamp.Sts.at_ M0.out lt_33
            obtain rfl := Option.some.inj (gt_33.out.symm.trans z_t_33)
            subst At_33
            have ltt_33 := cell_lt ct_33_0
            replace ct_33_0 := cell_below HBwt_26.out ct_33_0
            replace ct_33_1 := cell_below HBwt_26.out ct_33_1
            replace ct_33_2 := cell_below HBwt_26.out ct_33_2
            replace ct_33_3 := cell_below HBwt_26.out ct_33_3
            clear z_t_33
            have b0t_33 : (0 : Int) ≤ (nt_33 : Int) := by omega
            have b1t_33 : (nt_33 : Int) < ((list.length : Nat) : Int) := by omega
            have b2t_33 : ((nt_33 : Int)).toNat = nt_33 := by omega
            replace H := let_hid H
            obtain ⟨t_36, ht_36, H⟩ := H
            replace H := app_hid H
            go_wp2_with fail
            go_roundg m0
            case measure => omega
            case rel => exact ⟨k0 + 1, _, _, by omega, by go_num, rfl, rfl, H, HBwt_26⟩
    | true =>
      have nht_8 : 40 < franking.length := by have := of_decide_eq_true ht_8; omega
      replace H := ite_t H
      cases ret_hid H
      go_wp2_with fail
      go_ret2
      exact ⟨rfl, HBwt_3.out⟩
end Go.Proofs.Ytdgbigkcophjoaa.GiValueOf
