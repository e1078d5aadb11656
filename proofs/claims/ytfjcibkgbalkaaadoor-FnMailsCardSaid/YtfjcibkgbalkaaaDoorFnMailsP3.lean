/- The texts on which the proof of FnMails stands, one behind the other (3 of 5). No condition of their own. -/
import Derived.Test.YtfjcibkgbalkaaaDoorChecked
import Derived.Test.YtfjcibkgbalkaaaDoorFnMailsP1
import Derived.Test.YtfjcibkgbalkaaaDoorFnMailsP2
import Derived.WalkKit
import Derived.WalkSpells
import Derived.WalkLawsBesides
import Derived.BigQuiet
import Derived.OwnWalk
import Derived.Deep.LoopGhost
import Derived.Deep.QuietTactic
import Derived.IntWalk
import Derived.Lib.QuietBelow
import Derived.StillTailTactics
import Derived.Lib.ItoaMem
import Derived.Lib.Hide
import Derived.Lib.ItoaLen
import Derived.Outline
import Derived.WalkSmall
/- loop.example/g01062/impl.LatestLeave as a plain function, and the contract of the program's: where the plain one has an answer, the program has it. Conditions: slices read as lists. -/
namespace Go.Proofs.YtfjcibkgbalkaaaDoor.GiLatestLeave
set_option linter.unusedVariables false
set_option linter.unusedSimpArgs false
open Go.RowKit
open Go.Proofs.YtfjcibkgbalkaaaDoor.Rowed Go.Proofs.YtfjcibkgbalkaaaDoor.Turn Go.Proofs.YtfjcibkgbalkaaaDoor.Aid Go.Proofs.YtfjcibkgbalkaaaDoor.GoP Go.Proofs.YtfjcibkgbalkaaaDoor.GoM

def P (fuel : Nat) (list : (List Go.Proofs.YtfjcibkgbalkaaaDoor.PMail.Mail)) (from_1 : Int) (to_2 : Int) (by_3 : Int) : Option (Int × Bool) :=
  Option.bind (Go.Proofs.YtfjcibkgbalkaaaDoor.GiIsTimetable.P list) fun (t_3 : Bool) =>
  letK (!t_3) fun (t_4 : Bool) =>
  joinK (fun (t_9 : Bool) =>
  joinK (fun (t_14 : Bool) =>
  joinK (fun (t_19 : Bool) =>
  joinK (fun (t_24 : Bool) =>
  iteK t_24
  (some (0, false))
  (Option.bind (Go.Proofs.YtfjcibkgbalkaaaDoor.GiLatestMinutes.P fuel list to_2 by_3) fun (t_30 : Go.Proofs.YtfjcibkgbalkaaaDoor.PIntA10.IntA10) =>
  unIntA10 t_30 fun (t_30_x0 : Int) (t_30_x1 : Int) (t_30_x2 : Int) (t_30_x3 : Int) (t_30_x4 : Int) (t_30_x5 : Int) (t_30_x6 : Int) (t_30_x7 : Int) (t_30_x8 : Int) (t_30_x9 : Int) =>
  Option.bind (idx [t_30_x0, t_30_x1, t_30_x2, t_30_x3, t_30_x4, t_30_x5, t_30_x6, t_30_x7, t_30_x8, t_30_x9] from_1) fun (yt_32 : Int) =>
  letK (yt_32 == (-1)) fun (t_35 : Bool) =>
  iteK t_35
  (some (0, false))
  (some (yt_32, true)))) fun jt_24 => iteK t_19 (appK jt_24 true) (Option.bind (Go.Proofs.YtfjcibkgbalkaaaDoor.GiIsMinute.P by_3) fun (t_22 : Bool) =>
  letK (!t_22) fun (t_23 : Bool) =>
  appK jt_24 t_23)) fun jt_19 => iteK t_14 (appK jt_19 true) (letK (from_1 == to_2) fun (t_18 : Bool) =>
  appK jt_19 t_18)) fun jt_14 => iteK t_9 (appK jt_14 true) (Option.bind (Go.Proofs.YtfjcibkgbalkaaaDoor.GiIsPostOffice.P to_2) fun (t_12 : Bool) =>
  letK (!t_12) fun (t_13 : Bool) =>
  appK jt_14 t_13)) fun jt_9 => iteK t_4 (appK jt_9 true) (Option.bind (Go.Proofs.YtfjcibkgbalkaaaDoor.GiIsPostOffice.P from_1) fun (t_7 : Bool) =>
  letK (!t_7) fun (t_8 : Bool) =>
  appK jt_9 t_8)

set_option maxRecDepth 100000 in
set_option maxHeartbeats 2000000 in
theorem C (fuel : Nat) (list : (List Go.Proofs.YtfjcibkgbalkaaaDoor.PMail.Mail)) (from_1 : Int) (to_2 : Int) (by_3 : Int) (A0 : Option Addr) (c0 : Nat)  (w : World) (M0 : Hid (Cells w 4 A0 list.length (Go.Proofs.YtfjcibkgbalkaaaDoor.PMail.flat list))) (N0 : Hid (list.length ≤ 9223372036854775807))  {r0 : Int} {r1 : Bool} (H : Hid (P fuel list from_1 to_2 by_3 = some (r0, r1))) :
    Calls Tryd.prog 25 #[.slice A0 list.length c0, .int .i64 from_1, .int .i64 to_2, .int .i64 by_3] w (Gives (.tuple #[.int .i64 r0, .bool r1]) w) := by
  have HB := Lib.hid (Below.refl w.heap.size w)
  unfold P at H
  have N0o := N0.out
  go_enter Tryd.func25, Tryd.ntmps25
  replace H := bind_hid H
  obtain ⟨t_3, qt_3, H⟩ := H
  go_wp2_with fail
  go_at_call 62
  refine (Go.Proofs.YtfjcibkgbalkaaaDoor.GiIsTimetable.C (list) A0 c0 _   (Lib.hid (Cells.below M0.out HB.out)) N0 qt_3).mono ?_
  rintro e_t_3 wt_3 ⟨rfl, bt_3⟩
  have HBwt_3 := Lib.hid (Below.step HB.out bt_3)
  clear bt_3
  cases t_3 with
  | false =>
    replace H := let_hid H
    obtain ⟨t_4, ht_4, H⟩ := H
    obtain rfl : t_4 = true := ht_4.symm
    replace H := join_hid H
    replace H := ite_t H
    replace H := app_hid H
    replace H := join_hid H
    replace H := ite_t H
    replace H := app_hid H
    replace H := join_hid H
    replace H := ite_t H
    replace H := app_hid H
    replace H := join_hid H
    replace H := ite_t H
    replace H := app_hid H
    replace H := ite_t H
    cases ret_hid H
    go_wp2_with fail
    go_ret2
    exact ⟨rfl, HBwt_3.out⟩
  | true =>
    replace H := let_hid H
    obtain ⟨t_4, ht_4, H⟩ := H
    obtain rfl : t_4 = false := ht_4.symm
    replace H := join_hid H
    replace H := ite_f H
    replace H := bind_hid H
    obtain ⟨t_7, qt_7, H⟩ := H
    go_wp2_with fail
    go_at_call 63
    refine (Go.Proofs.YtfjcibkgbalkaaaDoor.GiIsPostOffice.C (from_1)  _    qt_7).mono ?_
    rintro e_t_7 wt_7 ⟨rfl, bt_7⟩
    have HBwt_7 := Lib.hid (Below.step HBwt_3.out bt_7)
    clear bt_7
    cases t_7 with
    | false =>
      replace H := let_hid H
      obtain ⟨t_8, ht_8, H⟩ := H
      obtain rfl : t_8 = true := ht_8.symm
      replace H := app_hid H
      replace H := join_hid H
      replace H := ite_t H
      replace H := app_hid H
      replace H := join_hid H
      replace H := ite_t H
      replace H := app_hid H
      replace H := join_hid H
      replace H := ite_t H
      replace H := app_hid H
      replace H := ite_t H
      cases ret_hid H
      go_wp2_with fail
      go_ret2
      exact ⟨rfl, HBwt_7.out⟩
    | true =>
      replace H := let_hid H
      obtain ⟨t_8, ht_8, H⟩ := H
      obtain rfl : t_8 = false := ht_8.symm
      replace H := app_hid H
      replace H := join_hid H
      replace H := ite_f H
      replace H := bind_hid H
      obtain ⟨t_12, qt_12, H⟩ := H
      go_wp2_with fail
      go_at_call 63
      refine (Go.Proofs.YtfjcibkgbalkaaaDoor.GiIsPostOffice.C (to_2)  _    qt_12).mono ?_
      rintro e_t_12 wt_12 ⟨rfl, bt_12⟩
      have HBwt_12 := Lib.hid (Below.step HBwt_7.out bt_12)
      clear bt_12
      cases t_12 with
      | false =>
        replace H := let_hid H
        obtain ⟨t_13, ht_13, H⟩ := H
        obtain rfl : t_13 = true := ht_13.symm
        replace H := app_hid H
        replace H := join_hid H
        replace H := ite_t H
        replace H := app_hid H
        replace H := join_hid H
        replace H := ite_t H
        replace H := app_hid H
        replace H := ite_t H
        cases ret_hid H
        go_wp2_with fail
        go_ret2
        exact ⟨rfl, HBwt_12.out⟩
      | true =>
        replace H := let_hid H
        obtain ⟨t_13, ht_13, H⟩ := H
        obtain rfl : t_13 = false := ht_13.symm
        replace H := app_hid H
        replace H := join_hid H
        replace H := ite_f H
        replace H := let_hid H
        obtain ⟨t_18, ht_18, H⟩ := H
        replace H := app_hid H
        replace H := join_hid H
        cases t_18 with
        | false =>
          replace H := ite_f H
          replace H := bind_hid H
          obtain ⟨t_22, qt_22, H⟩ := H
          go_wp2_with fail
          go_at_call 64
          refine (Go.Proofs.YtfjcibkgbalkaaaDoor.GiIsMinute.C (by_3)  _    qt_22).mono ?_
          rintro e_t_22 wt_22 ⟨rfl, bt_22⟩
          have HBwt_22 := Lib.hid (Below.step HBwt_12.out bt_22)
          clear bt_22
          cases t_22 with
          | false =>
            replace H := let_hid H
            obtain ⟨t_23, ht_23, H⟩ := H
            obtain rfl : t_23 = true := ht_23.symm
            replace H := app_hid H
            replace H := ite_t H
            cases ret_hid H
            go_wp2_with fail
            go_ret2
            exact ⟨rfl, HBwt_22.out⟩
          | true =>
            replace H := let_hid H
            obtain ⟨t_23, ht_23, H⟩ := H
            obtain rfl : t_23 = false := ht_23.symm
            replace H := app_hid H
            replace H := ite_f H
            replace H := bind_hid H
            obtain ⟨t_30, qt_30, H⟩ := H
            obtain ⟨t_30_x0, t_30_x1, t_30_x2, t_30_x3, t_30_x4, t_30_x5, t_30_x6, t_30_x7, t_30_x8, t_30_x9⟩ := t_30
            replace H := unIntA10_hid H
            go_wp2_with fail
            go_at_call 65
            refine (Go.Proofs.YtfjcibkgbalkaaaDoor.GiLatestMinutes.C fuel (list) (to_2) (by_3) A0 c0 _   (Lib.hid (Cells.below M0.out HBwt_22.out)) N0 qt_30).mono ?_
            rintro e_t_30 wt_30 ⟨rfl, bt_30⟩
            unfold Go.Proofs.YtfjcibkgbalkaaaDoor.PIntA10.IntA10.val
            have HBwt_30 := Lib.hid (Below.step HBwt_22.out bt_30)
            clear bt_30
            replace H := idx_hid H
            obtain ⟨nt_32, yt_32, et_32, lt_32, gt_32, H⟩ := H
            subst et_32
            have it_32 : ∀ w, (Instr.index 78 (.agg #[.int .i64 t_30_x0, .int .i64 t_30_x1, .int .i64 t_30_x2, .int .i64 t_30_x3, .int .i64 t_30_x4, .int .i64 t_30_x5, .int .i64 t_30_x6, .int .i64 t_30_x7, .int .i64 t_30_x8, .int .i64 t_30_x9]) (.int .i64 (nt_32 : Int))).run Tryd.prog w = .ok (.int .i64 yt_32) w := by
              intro w
              have hl := lt_32
              have hg := gt_32.out
              clear gt_32 H
              rcases nt_32 with _ | _ | _ | _ | _ | _ | _ | _ | _ | _ | _
              · obtain rfl := Option.some.inj hg; rfl
              · obtain rfl := Option.some.inj hg; rfl
              · obtain rfl := Option.some.inj hg; rfl
              · obtain rfl := Option.some.inj hg; rfl
              · obtain rfl := Option.some.inj hg; rfl
              · obtain rfl := Option.some.inj hg; rfl
              · obtain rfl := Option.some.inj hg; rfl
              · obtain rfl := Option.some.inj hg; rfl
              · obtain rfl := Option.some.inj hg; rfl
              · obtain rfl := Option.some.inj hg; rfl
              · simp at hl; omega
            replace H := let_hid H
            obtain ⟨t_35, ht_35, H⟩ := H
            cases t_35 with
            | false =>
              replace H := ite_f H
              cases ret_hid H
              go_wp2_with fail
              go_ret2
              exact ⟨rfl, HBwt_30.out⟩
            | true =>
              replace H := ite_t H
              cases ret_hid H
              go_wp2_with fail
              go_ret2
              exact ⟨rfl, HBwt_30.out⟩
        | true =>
          replace H := ite_t H
          replace H := app_hid H
          replace H := ite_t H
          cases ret_hid H
          go_wp2_with fail
          go_ret2
          exact ⟨rfl, HBwt_12.out⟩
end Go.Proofs.YtfjcibkgbalkaaaDoor.GiLatestLeave

/- loop.example/g01062/spec.l9Good as a plain function, and the contract of the program's: where the plain one has an answer, the program has it. Conditions: slices read as lists. -/
namespace Go.Proofs.YtfjcibkgbalkaaaDoor.GsL9Good
set_option linter.unusedVariables false
set_option linter.unusedSimpArgs false
open Go.RowKit
open Go.Proofs.YtfjcibkgbalkaaaDoor.Rowed Go.Proofs.YtfjcibkgbalkaaaDoor.Turn Go.Proofs.YtfjcibkgbalkaaaDoor.Aid Go.Proofs.YtfjcibkgbalkaaaDoor.GoP Go.Proofs.YtfjcibkgbalkaaaDoor.GoM

def l0 (list : (List Go.Proofs.YtfjcibkgbalkaaaDoor.PMail.Mail)) (k0 : Nat) (s : Unit) (nx0 bk0 : Unit → Option (Bool)) : Option (Bool) :=
  
  Option.bind (idx list (k0 : Int)) fun (yt_8 : Go.Proofs.YtfjcibkgbalkaaaDoor.PMail.Mail) =>
  unMail yt_8 fun (t_8_leave : Int) (t_8_from_ : Int) (t_8_to_ : Int) (t_8_arrive : Int) =>
  Option.bind (Go.Proofs.YtfjcibkgbalkaaaDoor.GsL9One.P (Go.Proofs.YtfjcibkgbalkaaaDoor.PMail.Mail.mk t_8_leave t_8_from_ t_8_to_ t_8_arrive)) fun (t_10 : Bool) =>
  letK (!t_10) fun (t_11 : Bool) =>
  joinK (fun (t_29 : Bool) =>
  iteK t_29
  (some false)
  (appK nx0 ())) fun jt_29 => iteK t_11 (appK jt_29 true) (letK (decide (0 < (k0 : Int))) fun (t_14 : Bool) =>
  joinK (fun (t_28 : Bool) =>
  appK jt_29 t_28) fun jt_28 => iteK t_14 (letK (IntKind.i64.wrap ((k0 : Int) - 1)) fun (t_18 : Int) =>
  Option.bind (idx list t_18) fun (yt_19 : Go.Proofs.YtfjcibkgbalkaaaDoor.PMail.Mail) =>
  unMail yt_19 fun (t_19_leave : Int) (t_19_from_ : Int) (t_19_to_ : Int) (t_19_arrive : Int) =>
  Option.bind (Go.Proofs.YtfjcibkgbalkaaaDoor.GsL9Code.P (Go.Proofs.YtfjcibkgbalkaaaDoor.PMail.Mail.mk t_19_leave t_19_from_ t_19_to_ t_19_arrive)) fun (t_21 : Int) =>
  Option.bind (idx list (k0 : Int)) fun (yt_24 : Go.Proofs.YtfjcibkgbalkaaaDoor.PMail.Mail) =>
  unMail yt_24 fun (t_24_leave : Int) (t_24_from_ : Int) (t_24_to_ : Int) (t_24_arrive : Int) =>
  Option.bind (Go.Proofs.YtfjcibkgbalkaaaDoor.GsL9Code.P (Go.Proofs.YtfjcibkgbalkaaaDoor.PMail.Mail.mk t_24_leave t_24_from_ t_24_to_ t_24_arrive)) fun (t_26 : Int) =>
  letK (decide (t_26 ≤ t_21)) fun (t_27 : Bool) =>
  appK jt_28 t_27) (appK jt_28 false))

def e0 (list : (List Go.Proofs.YtfjcibkgbalkaaaDoor.PMail.Mail)) (s : Unit) : Option (Bool) :=
  
  letK (decide ((list.length : Int) ≤ 20)) fun (t_36 : Bool) =>
  some t_36

def P (list : (List Go.Proofs.YtfjcibkgbalkaaaDoor.PMail.Mail)) : Option (Bool) :=
  cntK (l0 list) (list.length) 0 () (e0 list)

set_option maxRecDepth 100000 in
set_option maxHeartbeats 2000000 in
theorem C (list : (List Go.Proofs.YtfjcibkgbalkaaaDoor.PMail.Mail)) (A0 : Option Addr) (c0 : Nat)  (w : World) (M0 : Hid (Cells w 4 A0 list.length (Go.Proofs.YtfjcibkgbalkaaaDoor.PMail.flat list))) (N0 : Hid (list.length ≤ 9223372036854775807))  {r : Bool} (H : Hid (P list = some r)) :
    Calls Tryd.prog 88 #[.slice A0 list.length c0] w (Gives (.bool r) w) := by
  have HB := Lib.hid (Below.refl w.heap.size w)
  unfold P at H
  have N0o := N0.out
  go_enter Tryd.func88, Tryd.ntmps88
  go_wp2_with fail
  go_loopg [3] (list.length) (fun m_ v3_ wr => ∃ (k0 : Nat) , k0 + m_ = list.length ∧ v3_ = .int .i64 (k0 : Int) ∧ Hid (cntK (l0 list) m_ k0 () (e0 list) = some r) ∧ Hid (Below w.heap.size w wr))
  case atStart => exact ⟨0, by omega, rfl, H, HB⟩
  case round =>
    obtain ⟨k0, hkm0, rfl, H, HBwr0⟩ := hrel
    rename World => wr0
    cases gk with
    | zero =>
      obtain rfl : k0 = list.length := by omega
      have hc0 : decide (((list.length : Nat) : Int) < ((list.length : Nat) : Int)) = false := by simp
      replace H := cnt_zero H
      unfold e0 at H
      replace H := let_hid H
      obtain ⟨t_36, ht_36, H⟩ := H
      obtain rfl := ret_hid H
      go_wp2_with fail
      go_ret
      exact ⟨rfl, HBwr0.out⟩
    | succ m0 =>
      have hlt0 : k0 < list.length := by omega
      have hc0 : decide ((k0 : Int) < ((list.length : Nat) : Int)) = true := by simp; omega
      replace H := cnt_succ H
      unfold l0 at H
      go_wp2_with fail
      replace H := idx_hid H
      obtain ⟨nt_8, yt_8, et_8, lt_8, gt_8, H⟩ := H
      obtain rfl : k0 = nt_8 := by omega
      clear et_8
      obtain ⟨t_8_leave, t_8_from_, t_8_to_, t_8_arrive⟩ := yt_8
      replace H := unMail_hid H
      obtain ⟨ab_t_8, ao_t_8, zt_8, At_8, z_t_8, ct_8_0, ct_8_1, ct_8_2, ct_8_3⟩ := Go.Proofs.YtfjcibkgbalkaaaDoor.OMail.at_ M0.out lt_8
      obtain rfl := Option.some.inj (gt_8.out.symm.trans z_t_8)
      subst At_8
      have ltt_8 := cell_lt ct_8_0
      replace ct_8_0 := cell_below HBwr0.out ct_8_0
      replace ct_8_1 := cell_below HBwr0.out ct_8_1
      replace ct_8_2 := cell_below HBwr0.out ct_8_2
      replace ct_8_3 := cell_below HBwr0.out ct_8_3
      clear z_t_8
      have b0t_8 : (0 : Int) ≤ (k0 : Int) := by omega
      have b1t_8 : (k0 : Int) < ((list.length : Nat) : Int) := by omega
      have b2t_8 : ((k0 : Int)).toNat = k0 := by omega
      have Hct_8_0 := Lib.hid ct_8_0
      replace ct_8_0 := cell_regrown ct_8_0
      have Hct_8_1 := Lib.hid ct_8_1
      replace ct_8_1 := cell_regrown ct_8_1
      have Hct_8_2 := Lib.hid ct_8_2
      replace ct_8_2 := cell_regrown ct_8_2
      have Hct_8_3 := Lib.hid ct_8_3
      replace ct_8_3 := cell_regrown ct_8_3
      replace H := bind_hid H
      obtain ⟨t_10, qt_10, H⟩ := H
      have nt_10 : ∀ d os, Calls Tryd.prog 74 #[.agg #[.int .i64 t_8_leave, .int .i64 t_8_from_, .int .i64 t_8_to_, .int .i64 t_8_arrive]] (Go.Sort.grow (redrawn wr0 d) os) fun e w'' => e = .returned (.bool t_10) ∧ ∃ p : Regrown, w'' = Go.Sort.grow (redrawn wr0 p.d) p.os := fun d os => Calls.regrown_of (Go.Proofs.YtfjcibkgbalkaaaDoor.GsL9One.C ((Go.Proofs.YtfjcibkgbalkaaaDoor.PMail.Mail.mk t_8_leave t_8_from_ t_8_to_ t_8_arrive))  _    qt_10)
      cases t_10 with
      | false =>
        replace H := let_hid H
        obtain ⟨t_11, ht_11, H⟩ := H
        obtain rfl : t_11 = true := ht_11.symm
        replace H := join_hid H
        replace H := ite_t H
        replace H := app_hid H
        refine wp_region_quiet_below (by kernel_rfl) (by kernel_rfl) ?_
        repeat (go_big_quiet_step (first | (go_at_call 74; exact nt_10 _ _)))
        refine wpQuiet_nil ?_
        intro Y4 hY4
        replace hY4 := below_class hY4
        clear nt_10
        replace ct_8_0 := Hct_8_0.out
        clear Hct_8_0
        replace ct_8_1 := Hct_8_1.out
        clear Hct_8_1
        replace ct_8_2 := Hct_8_2.out
        clear Hct_8_2
        replace ct_8_3 := Hct_8_3.out
        clear Hct_8_3
        have HBY4 := Lib.hid (Below.step HBwr0.out hY4)
        replace ct_8_0 := cell_below hY4 ct_8_0
        replace ct_8_1 := cell_below hY4 ct_8_1
        replace ct_8_2 := cell_below hY4 ct_8_2
        replace ct_8_3 := cell_below hY4 ct_8_3
        clear hY4
        replace H := ite_t H
        obtain rfl := ret_hid H
        go_wp2_with fail
        go_ret
        exact ⟨rfl, HBY4.out⟩
      | true =>
        replace H := let_hid H
        obtain ⟨t_11, ht_11, H⟩ := H
        obtain rfl : t_11 = false := ht_11.symm
        replace H := join_hid H
        replace H := ite_f H
        replace H := let_hid H
        obtain ⟨t_14, ht_14, H⟩ := H
        replace H := join_hid H
        cases t_14 with
        | false =>
          have nht_14 : ¬ (0 < k0) := by have := of_decide_eq_false ht_14; omega
          replace H := ite_f H
          replace H := app_hid H
          replace H := app_hid H
          refine wp_region_quiet_below (by kernel_rfl) (by kernel_rfl) ?_
          repeat (go_big_quiet_step (first | (go_at_call 74; exact nt_10 _ _)))
          refine wpQuiet_nil ?_
          intro Y4 hY4
          replace hY4 := below_class hY4
          clear nt_10
          replace ct_8_0 := Hct_8_0.out
          clear Hct_8_0
          replace ct_8_1 := Hct_8_1.out
          clear Hct_8_1
          replace ct_8_2 := Hct_8_2.out
          clear Hct_8_2
          replace ct_8_3 := Hct_8_3.out
          clear Hct_8_3
          have HBY4 := Lib.hid (Below.step HBwr0.out hY4)
          replace ct_8_0 := cell_below hY4 ct_8_0
          replace ct_8_1 := cell_below hY4 ct_8_1
          replace ct_8_2 := cell_below hY4 ct_8_2
          replace ct_8_3 := cell_below hY4 ct_8_3
          clear hY4
          replace H := ite_f H
          replace H := app_hid H
          go_wp2_with fail
          go_roundg m0
          case measure => omega
          case rel => exact ⟨k0 + 1, by omega, by go_num, H, HBY4⟩
        | true =>
          have nht_14 : 0 < k0 := by have := of_decide_eq_true ht_14; omega
          replace H := ite_t H
          replace H := let_hid H
          obtain ⟨t_18, ht_18, H⟩ := H
          replace H := idx_hid H
          obtain ⟨nt_19, yt_19, et_19, lt_19, gt_19, H⟩ := H
          subst et_19
          obtain ⟨t_19_leave, t_19_from_, t_19_to_, t_19_arrive⟩ := yt_19
          replace H := unMail_hid H
          obtain ⟨ab_t_19, ao_t_19, zt_19, At_19, z_t_19, ct_19_0, ct_19_1, ct_19_2, ct_19_3⟩ := Go.Proofs.YtfjcibkgbalkaaaDoor.OMail.at_ M0.out lt_19
          obtain rfl := Option.some.inj (gt_19.out.symm.trans z_t_19)
          simp only [Option.some.injEq, Addr.mk.injEq] at At_19
          obtain ⟨rfl, rfl, _⟩ := At_19
          have ltt_19 := cell_lt ct_19_0
          replace ct_19_0 := cell_below HBwr0.out ct_19_0
          replace ct_19_1 := cell_below HBwr0.out ct_19_1
          replace ct_19_2 := cell_below HBwr0.out ct_19_2
          replace ct_19_3 := cell_below HBwr0.out ct_19_3
          clear z_t_19
          have b0t_19 : (0 : Int) ≤ (nt_19 : Int) := by omega
          have b1t_19 : (nt_19 : Int) < ((list.length : Nat) : Int) := by omega
          have b2t_19 : ((nt_19 : Int)).toNat = nt_19 := by omega
          have Hct_19_0 := Lib.hid ct_19_0
          replace ct_19_0 := cell_regrown ct_19_0
          have Hct_19_1 := Lib.hid ct_19_1
          replace ct_19_1 := cell_regrown ct_19_1
          have Hct_19_2 := Lib.hid ct_19_2
          replace ct_19_2 := cell_regrown ct_19_2
          have Hct_19_3 := Lib.hid ct_19_3
          replace ct_19_3 := cell_regrown ct_19_3
          replace H := bind_hid H
          obtain ⟨t_21, qt_21, H⟩ := H
          have nt_21 : ∀ d os, Calls Tryd.prog 85 #[.agg #[.int .i64 t_19_leave, .int .i64 t_19_from_, .int .i64 t_19_to_, .int .i64 t_19_arrive]] (Go.Sort.grow (redrawn wr0 d) os) fun e w'' => e = .returned (.int .i64 t_21) ∧ ∃ p : Regrown, w'' = Go.Sort.grow (redrawn wr0 p.d) p.os := fun d os => Calls.regrown_of (Go.Proofs.YtfjcibkgbalkaaaDoor.GsL9Code.C ((Go.Proofs.YtfjcibkgbalkaaaDoor.PMail.Mail.mk t_19_leave t_19_from_ t_19_to_ t_19_arrive))  _    qt_21)
          replace H := idx_hid H
          obtain ⟨nt_24, yt_24, et_24, lt_24, gt_24, H⟩ := H
          obtain rfl : k0 = nt_24 := by omega
          clear et_24
          obtain rfl := Option.some.inj (gt_8.out.symm.trans gt_24.out)
          clear gt_24 lt_24
          replace H := unMail_hid H
          replace H := bind_hid H
          obtain ⟨t_26, qt_26, H⟩ := H
          have nt_26 : ∀ d os, Calls Tryd.prog 85 #[.agg #[.int .i64 t_8_leave, .int .i64 t_8_from_, .int .i64 t_8_to_, .int .i64 t_8_arrive]] (Go.Sort.grow (redrawn wr0 d) os) fun e w'' => e = .returned (.int .i64 t_26) ∧ ∃ p : Regrown, w'' = Go.Sort.grow (redrawn wr0 p.d) p.os := fun d os => Calls.regrown_of (Go.Proofs.YtfjcibkgbalkaaaDoor.GsL9Code.C ((Go.Proofs.YtfjcibkgbalkaaaDoor.PMail.Mail.mk t_8_leave t_8_from_ t_8_to_ t_8_arrive))  _    qt_26)
          replace H := let_hid H
          obtain ⟨t_27, ht_27, H⟩ := H
          replace H := app_hid H
          replace H := app_hid H
          refine wp_region_quiet_below (by kernel_rfl) (by kernel_rfl) ?_
          repeat (go_big_quiet_step (first | (go_at_call 85; with_reducible exact nt_21 _ _) | (go_at_call 85; with_reducible exact nt_26 _ _) | (go_at_call 74; exact nt_10 _ _) | (go_at_call 85; exact nt_21 _ _) | (go_at_call 85; exact nt_26 _ _)))
          refine wpQuiet_nil ?_
          intro Y4 hY4
          replace hY4 := below_class hY4
          clear nt_10 nt_21 nt_26
          replace ct_8_0 := Hct_8_0.out
          clear Hct_8_0
          replace ct_8_1 := Hct_8_1.out
          clear Hct_8_1
          replace ct_8_2 := Hct_8_2.out
          clear Hct_8_2
          replace ct_8_3 := Hct_8_3.out
          clear Hct_8_3
          replace ct_19_0 := Hct_19_0.out
          clear Hct_19_0
          replace ct_19_1 := Hct_19_1.out
          clear Hct_19_1
          replace ct_19_2 := Hct_19_2.out
          clear Hct_19_2
          replace ct_19_3 := Hct_19_3.out
          clear Hct_19_3
          have HBY4 := Lib.hid (Below.step HBwr0.out hY4)
          replace ct_8_0 := cell_below hY4 ct_8_0
          replace ct_8_1 := cell_below hY4 ct_8_1
          replace ct_8_2 := cell_below hY4 ct_8_2
          replace ct_8_3 := cell_below hY4 ct_8_3
          replace ct_19_0 := cell_below hY4 ct_19_0
          replace ct_19_1 := cell_below hY4 ct_19_1
          replace ct_19_2 := cell_below hY4 ct_19_2
          replace ct_19_3 := cell_below hY4 ct_19_3
          clear hY4
          cases t_27 with
          | false =>
            replace H := ite_f H
            replace H := app_hid H
            go_wp2_with fail
            go_roundg m0
            case measure => omega
            case rel => exact ⟨k0 + 1, by omega, by go_num, H, HBY4⟩
          | true =>
            replace H := ite_t H
            obtain rfl := ret_hid H
            go_wp2_with fail
            go_ret
            exact ⟨rfl, HBY4.out⟩
end Go.Proofs.YtfjcibkgbalkaaaDoor.GsL9Good

/- loop.example/g01062/spec.l9Asked as a plain function, and the contract of the program's: where the plain one has an answer, the program has it. Conditions: slices read as lists. -/
namespace Go.Proofs.YtfjcibkgbalkaaaDoor.GsL9Asked
set_option linter.unusedVariables false
set_option linter.unusedSimpArgs false
open Go.RowKit
open Go.Proofs.YtfjcibkgbalkaaaDoor.Rowed Go.Proofs.YtfjcibkgbalkaaaDoor.Turn Go.Proofs.YtfjcibkgbalkaaaDoor.Aid Go.Proofs.YtfjcibkgbalkaaaDoor.GoP Go.Proofs.YtfjcibkgbalkaaaDoor.GoM

def P (list : (List Go.Proofs.YtfjcibkgbalkaaaDoor.PMail.Mail)) (from_1 : Int) (minute : Int) : Option (Bool) :=
  Option.bind (Go.Proofs.YtfjcibkgbalkaaaDoor.GsL9Good.P list) fun (t_2 : Bool) =>
  joinK (fun (t_6 : Bool) =>
  joinK (fun (t_10 : Bool) =>
  some t_10) fun jt_10 => iteK t_6 (Option.bind (Go.Proofs.YtfjcibkgbalkaaaDoor.GsL9Minute.P minute) fun (t_9 : Bool) =>
  appK jt_10 t_9) (appK jt_10 false)) fun jt_6 => iteK t_2 (Option.bind (Go.Proofs.YtfjcibkgbalkaaaDoor.GsL9Office.P from_1) fun (t_5 : Bool) =>
  appK jt_6 t_5) (appK jt_6 false)

set_option maxRecDepth 100000 in
set_option maxHeartbeats 2000000 in
theorem C (list : (List Go.Proofs.YtfjcibkgbalkaaaDoor.PMail.Mail)) (from_1 : Int) (minute : Int) (A0 : Option Addr) (c0 : Nat)  (w : World) (M0 : Hid (Cells w 4 A0 list.length (Go.Proofs.YtfjcibkgbalkaaaDoor.PMail.flat list))) (N0 : Hid (list.length ≤ 9223372036854775807))  {r : Bool} (H : Hid (P list from_1 minute = some r)) :
    Calls Tryd.prog 66 #[.slice A0 list.length c0, .int .i64 from_1, .int .i64 minute] w (Gives (.bool r) w) := by
  have HB := Lib.hid (Below.refl w.heap.size w)
  unfold P at H
  have N0o := N0.out
  go_enter Tryd.func66, Tryd.ntmps66
  replace H := bind_hid H
  obtain ⟨t_2, qt_2, H⟩ := H
  go_wp2_with fail
  go_at_call 88
  refine (Go.Proofs.YtfjcibkgbalkaaaDoor.GsL9Good.C (list) A0 c0 _   (Lib.hid (Cells.below M0.out HB.out)) N0 qt_2).mono ?_
  rintro e_t_2 wt_2 ⟨rfl, bt_2⟩
  have HBwt_2 := Lib.hid (Below.step HB.out bt_2)
  clear bt_2
  replace H := join_hid H
  cases t_2 with
  | false =>
    replace H := ite_f H
    replace H := app_hid H
    replace H := join_hid H
    replace H := ite_f H
    replace H := app_hid H
    obtain rfl := ret_hid H
    go_wp2_with fail
    go_ret
    exact ⟨rfl, HBwt_2.out⟩
  | true =>
    replace H := ite_t H
    replace H := bind_hid H
    obtain ⟨t_5, qt_5, H⟩ := H
    go_wp2_with fail
    go_at_call 67
    refine (Go.Proofs.YtfjcibkgbalkaaaDoor.GsL9Office.C (from_1)  _    qt_5).mono ?_
    rintro e_t_5 wt_5 ⟨rfl, bt_5⟩
    have HBwt_5 := Lib.hid (Below.step HBwt_2.out bt_5)
    clear bt_5
    replace H := app_hid H
    replace H := join_hid H
    cases t_5 with
    | false =>
      replace H := ite_f H
      replace H := app_hid H
      obtain rfl := ret_hid H
      go_wp2_with fail
      go_ret
      exact ⟨rfl, HBwt_5.out⟩
    | true =>
      replace H := ite_t H
      replace H := bind_hid H
      obtain ⟨t_9, qt_9, H⟩ := H
      go_wp2_with fail
      go_at_call 89
      refine (Go.Proofs.YtfjcibkgbalkaaaDoor.GsL9Minute.C (minute)  _    qt_9).mono ?_
      rintro e_t_9 wt_9 ⟨rfl, bt_9⟩
      have HBwt_9 := Lib.hid (Below.step HBwt_5.out bt_9)
      clear bt_9
      replace H := app_hid H
      obtain rfl := ret_hid H
      go_wp2_with fail
      go_ret
      exact ⟨rfl, HBwt_9.out⟩
end Go.Proofs.YtfjcibkgbalkaaaDoor.GsL9Asked

/- loop.example/g01062/spec.l1Least as a plain function, and the contract of the program's: where the plain one has an answer, the program has it. Conditions: slices read as lists. -/
namespace Go.Proofs.YtfjcibkgbalkaaaDoor.GsL1Least
set_option linter.unusedVariables false
set_option linter.unusedSimpArgs false
open Go.RowKit
open Go.Proofs.YtfjcibkgbalkaaaDoor.Rowed Go.Proofs.YtfjcibkgbalkaaaDoor.Turn Go.Proofs.YtfjcibkgbalkaaaDoor.Aid Go.Proofs.YtfjcibkgbalkaaaDoor.GoP Go.Proofs.YtfjcibkgbalkaaaDoor.GoM

def P (a : Int) (b : Int) : Option (Int) :=
  letK (decide (a < b)) fun (t_3 : Bool) =>
  iteK t_3
  (some a)
  (some b)

set_option maxRecDepth 100000 in
set_option maxHeartbeats 2000000 in
theorem C (a : Int) (b : Int)   (w : World)   {r : Int} (H : Hid (P a b = some r)) :
    Calls Tryd.prog 90 #[.int .i64 a, .int .i64 b] w (Gives (.int .i64 r) w) := by
  have HB := Lib.hid (Below.refl w.heap.size w)
  unfold P at H
  go_enter Tryd.func90, Tryd.ntmps90
  replace H := let_hid H
  obtain ⟨t_3, ht_3, H⟩ := H
  cases t_3 with
  | false =>
    replace H := ite_f H
    obtain rfl := ret_hid H
    go_wp2_with fail
    go_ret
    exact ⟨rfl, HB.out⟩
  | true =>
    replace H := ite_t H
    obtain rfl := ret_hid H
    go_wp2_with fail
    go_ret
    exact ⟨rfl, HB.out⟩

set_option maxRecDepth 100000 in
set_option maxHeartbeats 2000000 in
theorem C0 (a : Int) (b : Int)   (w : World)   {r : Int} (H : Hid (P a b = some r)) :
    Calls Tryd.prog 90 #[.int .i64 a, .int .i64 b] w (fun e w'' => e = .returned (.int .i64 r) ∧ w'' = w) := by
  have HB := Lib.hid (Below.refl w.heap.size w)
  unfold P at H
  go_enter Tryd.func90, Tryd.ntmps90
  replace H := let_hid H
  obtain ⟨t_3, ht_3, H⟩ := H
  cases t_3 with
  | false =>
    replace H := ite_f H
    obtain rfl := ret_hid H
    go_wp2_with fail
    go_ret
    exact ⟨rfl, rfl⟩
  | true =>
    replace H := ite_t H
    obtain rfl := ret_hid H
    go_wp2_with fail
    go_ret
    exact ⟨rfl, rfl⟩
end Go.Proofs.YtfjcibkgbalkaaaDoor.GsL1Least

/- loop.example/g01062/spec.l9Times as a plain function, and the contract of the program's: where the plain one has an answer, the program has it. Conditions: slices read as lists. -/
namespace Go.Proofs.YtfjcibkgbalkaaaDoor.GsL9Times
set_option linter.unusedVariables false
set_option linter.unusedSimpArgs false
open Go.RowKit
open Go.Proofs.YtfjcibkgbalkaaaDoor.Rowed Go.Proofs.YtfjcibkgbalkaaaDoor.Turn Go.Proofs.YtfjcibkgbalkaaaDoor.Aid Go.Proofs.YtfjcibkgbalkaaaDoor.GoP Go.Proofs.YtfjcibkgbalkaaaDoor.GoM

def l0  (k0 : Nat) (s : (List Int)) (nx0 bk0 : (List Int) → Option ((List Int))) : Option ((List Int)) :=
  letK s fun out_7l0 =>
  Option.bind (idx out_7l0 (k0 : Int)) fun (yt_10 : Int) =>
  letK (out_7l0.set k0 10000) fun (l11_11 : (List Int)) =>
  appK nx0 (l11_11)

def l1 (list : (List Go.Proofs.YtfjcibkgbalkaaaDoor.PMail.Mail)) (k1 : Nat) (s : (List Int)) (nx1 bk1 : (List Int) → Option ((List Int))) : Option ((List Int)) :=
  letK s fun out_7l1 =>
  Option.bind (idx list (k1 : Int)) fun (yt_27 : Go.Proofs.YtfjcibkgbalkaaaDoor.PMail.Mail) =>
  unMail yt_27 fun (t_27_leave : Int) (t_27_from_ : Int) (t_27_to_ : Int) (t_27_arrive : Int) =>
  Option.bind (idx out_7l1 t_27_from_) fun (yt_34 : Int) =>
  letK (decide (yt_34 ≤ t_27_leave)) fun (t_38 : Bool) =>
  iteK t_38
  (Option.bind (idx out_7l1 t_27_to_) fun (yt_45 : Int) =>
  Option.bind (Go.Proofs.YtfjcibkgbalkaaaDoor.GsL1Least.P yt_45 t_27_arrive) fun (t_49 : Int) =>
  Option.bind (idx out_7l1 t_27_to_) fun (yt_50 : Int) =>
  letK (out_7l1.set (t_27_to_).toNat t_49) fun (l51_51 : (List Int)) =>
  appK nx1 (l51_51))
  (appK nx1 (out_7l1))

def e1  (s : (List Int)) : Option ((List Int)) :=
  letK s fun out_7l1 =>
  some out_7l1

def e0 (list : (List Go.Proofs.YtfjcibkgbalkaaaDoor.PMail.Mail)) (from_1 : Int) (minute : Int) (s : (List Int)) : Option ((List Int)) :=
  letK s fun out_7l0 =>
  Option.bind (idx out_7l0 from_1) fun (yt_18 : Int) =>
  letK (out_7l0.set (from_1).toNat minute) fun (l19_19 : (List Int)) =>
  cntK (l1 list) (list.length) 0 (l19_19) (e1 )

def P (list : (List Go.Proofs.YtfjcibkgbalkaaaDoor.PMail.Mail)) (from_1 : Int) (minute : Int) : Option ((List Int)) :=
  guardK (0 ≤ 10 ∧ 10 ≤ 1099511627776) <|
  letK (List.replicate 10 0) fun (t_1 : (List Int)) =>
  cntK (l0 ) (t_1.length) 0 (t_1) (e0 list from_1 minute)

set_option maxRecDepth 100000 in
set_option maxHeartbeats 2000000 in
theorem C (list : (List Go.Proofs.YtfjcibkgbalkaaaDoor.PMail.Mail)) (from_1 : Int) (minute : Int) (A0 : Option Addr) (c0 : Nat)  (w : World) (M0 : Hid (Cells w 4 A0 list.length (Go.Proofs.YtfjcibkgbalkaaaDoor.PMail.flat list))) (N0 : Hid (list.length ≤ 9223372036854775807))  {r : (List Int)} (H : Hid (P list from_1 minute = some r)) :
    Calls Tryd.prog 68 #[.slice A0 list.length c0, .int .i64 from_1, .int .i64 minute] w (fun e w' => ∃ A_r c_r, e = .returned (.slice A_r r.length c_r) ∧ w'.ownsRow w.heap.size 3 1 (.slice A_r r.length c_r) r.length (Go.Proofs.YtfjcibkgbalkaaaDoor.HelpInt.iv r) ∧ Below w.heap.size w w') := by
  have HB := Lib.hid (Below.refl w.heap.size w)
  unfold P at H
  have N0o := N0.out
  obtain ⟨i0_3, hi_3, hz0_3, hz1_3, hz2_3⟩ := Aid.info_parts (P := Tryd.prog) (T := 3) (z := .int .i64 0) (s := 1) (b := 8) (by kernel_rfl)
  go_enter Tryd.func68, Tryd.ntmps68
  replace H := guard_hid H
  obtain ⟨hnt_1, H⟩ := H
  replace H := let_hid H
  obtain ⟨t_1, ht_1, H⟩ := H
  have hst_1 := HB.out.size
  have hlt_1 : t_1.length = 10 := by rw [← ht_1]; simp
  have hht_1 := Lib.hid ht_1
  clear ht_1
  go_wp2_with (at_make; refine wpList_make_full _ rfl _ _ 49 rfl w.heap.size 3 i0_3 (.int .i64 0) 1 Tryd.underlying49 hi_3 hz0_3 hz1_3 .i64 .i64 _ _ 10 rfl rfl (by omega) (by omega) (by rw [hz2_3]; omega) (by unfold maxLen; omega) hst_1 ?_; intro wt_1 ot_1 gt_1; have Qt_1 := Lib.hid ot_1; have Gt_1 := Lib.hid gt_1; clear ot_1 gt_1; refine stop_in ?_)
  refine stop_out ?_
  have Et_1 : (Go.Proofs.YtfjcibkgbalkaaaDoor.HelpInt.iv t_1) = (madeCells (.int .i64 0 : Value).cells (10 * 1)).toList := by
    rw [made_flat (fun x => [.int .i64 x]) 0 _ 1 _ rfl rfl (by decide), ← hht_1.out]
    exact map_flat _ _
  have Pt_1 : Hid (wt_1.ownsRow w.heap.size 3 1 (.slice (some ⟨w.heap.size, 0, none⟩) 10 10) 10 (Go.Proofs.YtfjcibkgbalkaaaDoor.HelpInt.iv t_1)) := Lib.hid (by rw [Et_1]; exact Qt_1.out)
  clear Et_1
  replace hlt_1 := Lib.hid hlt_1
  clear Qt_1 hst_1
  have bt_1 : Below w.heap.size w wt_1 := (Below.refl _ _).grown Gt_1.out (Nat.le_refl _) (by simp)
  clear Gt_1
  have HBwt_1 := Lib.hid (Below.step HB.out bt_1)
  clear bt_1
  go_wp2_with fail
  go_wp2_with fail
  have hc_ := hlt_1.out
  have hv_ : (Value.slice (some ⟨w.heap.size, 0, none⟩) 10 10 : Value) = Value.slice (some ⟨w.heap.size, 0, none⟩) t_1.length 10 := by rw [hc_]
  try rw [hv_]
  replace Pt_1 := Lib.hid (own_len hc_ Pt_1.out)
  clear hc_ hv_
  have hb_0 : t_1.length ≤ 9223372036854775807 := own_max Pt_1.out
  go_wp2_with fail
  go_loopg [8] (t_1.length) (fun m_ v8_ wr => ∃ (k0 : Nat) (out_7l0 : (List Int)), k0 + m_ = t_1.length ∧ v8_ = .int .i64 (k0 : Int) ∧ Hid (cntK (l0 ) m_ k0 (out_7l0) (e0 list from_1 minute) = some r) ∧ Hid (Below w.heap.size w wr) ∧ Hid (wr.ownsRow w.heap.size 3 1 (.slice (some ⟨w.heap.size, 0, none⟩) t_1.length 10) t_1.length (Go.Proofs.YtfjcibkgbalkaaaDoor.HelpInt.iv out_7l0)) ∧ Hid (out_7l0.length = t_1.length))
  case atStart => exact ⟨0, _, by omega, rfl, H, HBwt_1, Pt_1, Lib.hid (rfl)⟩
  case round =>
    obtain ⟨k0, out_7l0, hkm0, rfl, H, HBwr0, Oout_7l0, hnout_7l0⟩ := hrel
    rename World => wr0
    cases gk with
    | zero =>
      obtain rfl : k0 = t_1.length := by omega
      have hc0 : decide (((t_1.length : Nat) : Int) < ((t_1.length : Nat) : Int)) = false := by simp
      replace H := cnt_zero H
      unfold e0 at H
      replace H := let_hid H
      obtain ⟨_, rfl, H⟩ := H
      replace H := idx_hid H
      obtain ⟨nt_18, yt_18, et_18, lt_18, gt_18, H⟩ := H
      subst et_18
      have hqt_18 := hnout_7l0.out
      obtain ⟨ab_t_18, ao_t_18, zt_18, At_18, z_t_18, ct_18_0⟩ := Go.Proofs.YtfjcibkgbalkaaaDoor.HelpInt.Ints.at_ (own_cells Oout_7l0.out) (k := nt_18) (by omega)
      obtain rfl := Option.some.inj (gt_18.out.symm.trans z_t_18)
      simp only [Option.some.injEq, Addr.mk.injEq] at At_18
      obtain ⟨rfl, rfl, _⟩ := At_18
      clear z_t_18
      simp only [Nat.zero_add] at ct_18_0
      have b0t_18 : (0 : Int) ≤ (nt_18 : Int) := by omega
      have b1t_18 : (nt_18 : Int) < ((t_1.length : Nat) : Int) := by omega
      have b2t_18 : ((nt_18 : Int)).toNat = nt_18 := by omega
      clear hqt_18
      replace H := let_hid H
      obtain ⟨l19_19, hl19_19, H⟩ := H
      try simp only [Int.toNat_natCast] at hl19_19
      obtain ⟨wl19_19, hwl19_19⟩ : ∃ x, (wr0).setCell ⟨w.heap.size, nt_18, none⟩ (.int .i64 minute) = x := ⟨_, rfl⟩
      have z0l19_19 := Oout_7l0.out.frozenAt (nt_18)
      have Sl19_19 := Lib.hid (own_stores [(nt_18, .int .i64 minute)] Oout_7l0.out)
      have nl19_19 : Hid (l19_19.length = t_1.length) := Lib.hid (by rw [← hl19_19, List.length_set]; exact hnout_7l0.out)
      have Pl19_19 : Hid (wl19_19.ownsRow w.heap.size 3 1 (.slice (some ⟨w.heap.size, 0, none⟩) t_1.length 10) t_1.length (Go.Proofs.YtfjcibkgbalkaaaDoor.HelpInt.iv l19_19)) := Lib.hid (by have e_ : ([(nt_18, .int .i64 minute)] : List (Nat × Value)).foldl (fun xs p => xs.set p.1 p.2) (Go.Proofs.YtfjcibkgbalkaaaDoor.HelpInt.iv out_7l0) = (Go.Proofs.YtfjcibkgbalkaaaDoor.HelpInt.iv l19_19) := (by rw [← hl19_19]; first | done | simp [Go.Proofs.YtfjcibkgbalkaaaDoor.HelpInt.iv, List.map_set]); rw [← hwl19_19, ← e_]; exact Sl19_19.out.1)
      have Gl19_19 : Hid (wr0.grownBy wl19_19 (Value.slice (some ⟨w.heap.size, 0, none⟩) t_1.length 10).ownBlock) := Lib.hid (by rw [← hwl19_19]; exact Sl19_19.out.2)
      have HBwl19_19 := Lib.hid (HBwr0.out.grown Gl19_19.out HBwr0.out.size (fun q hq => (Oout_7l0.out.lt q hq).1))
      have hhl19_19 := Lib.hid hl19_19
      clear hl19_19 Sl19_19
      clear Oout_7l0 Gl19_19
      go_wp2_with fail
      clear z0l19_19 ct_18_0
      go_wp2_with fail
      go_loopg [9] (list.length) (fun m_ v9_ wr => ∃ (k1 : Nat) (out_7l1 : (List Int)), k1 + m_ = list.length ∧ v9_ = .int .i64 (k1 : Int) ∧ Hid (cntK (l1 list) m_ k1 (out_7l1) (e1 ) = some r) ∧ Hid (Below w.heap.size w wr) ∧ Hid (wr.ownsRow w.heap.size 3 1 (.slice (some ⟨w.heap.size, 0, none⟩) t_1.length 10) t_1.length (Go.Proofs.YtfjcibkgbalkaaaDoor.HelpInt.iv out_7l1)) ∧ Hid (out_7l1.length = t_1.length))
      case atStart => exact ⟨0, _, by omega, rfl, H, HBwl19_19, Pl19_19, Lib.hid (nl19_19.out)⟩
      case round =>
        obtain ⟨k1, out_7l1, hkm1, rfl, H, HBwr1, Oout_7l1, hnout_7l1⟩ := hrel
        rename World => wr1
        cases gk with
        | zero =>
          obtain rfl : k1 = list.length := by omega
          have hc1 : decide (((list.length : Nat) : Int) < ((list.length : Nat) : Int)) = false := by simp
          replace H := cnt_zero H
          unfold e1 at H
          replace H := let_hid H
          obtain ⟨_, rfl, H⟩ := H
          obtain rfl := ret_hid H
          go_wp2_with fail
          go_ret
          have hr_0 := hnout_7l1.out
          replace Oout_7l1 := Lib.hid (own_len hr_0 Oout_7l1.out)
          exact ⟨(some ⟨w.heap.size, 0, none⟩), 10, (by first | (rw [hr_0]; done) | (rw [hr_0]; rfl)), Oout_7l1.out, HBwr1.out⟩
        | succ m1 =>
          have hlt1 : k1 < list.length := by omega
          have hc1 : decide ((k1 : Int) < ((list.length : Nat) : Int)) = true := by simp; omega
          replace H := cnt_succ H
          unfold l1 at H
          replace H := let_hid H
          obtain ⟨_, rfl, H⟩ := H
          replace H := idx_hid H
          obtain ⟨nt_27, yt_27, et_27, lt_27, gt_27, H⟩ := H
          obtain rfl : k1 = nt_27 := by omega
          clear et_27
          obtain ⟨t_27_leave, t_27_from_, t_27_to_, t_27_arrive⟩ := yt_27
          replace H := unMail_hid H
          obtain ⟨ab_t_27, ao_t_27, zt_27, At_27, z_t_27, ct_27_0, ct_27_1, ct_27_2, ct_27_3⟩ := Go.Proofs.YtfjcibkgbalkaaaDoor.OMail.at_ M0.out lt_27
          obtain rfl := Option.some.inj (gt_27.out.symm.trans z_t_27)
          subst At_27
          have ltt_27 := cell_lt ct_27_0
          replace ct_27_0 := cell_below HBwr1.out ct_27_0
          replace ct_27_1 := cell_below HBwr1.out ct_27_1
          replace ct_27_2 := cell_below HBwr1.out ct_27_2
          replace ct_27_3 := cell_below HBwr1.out ct_27_3
          clear z_t_27
          have b0t_27 : (0 : Int) ≤ (k1 : Int) := by omega
          have b1t_27 : (k1 : Int) < ((list.length : Nat) : Int) := by omega
          have b2t_27 : ((k1 : Int)).toNat = k1 := by omega
          obtain ⟨w_x_29, hw_x_29⟩ : ∃ x, wr1.alloc (.cells #[.int .i64 t_27_leave, .int .i64 t_27_from_, .int .i64 t_27_to_, .int .i64 t_27_arrive] 54) = x := ⟨_, rfl⟩
          have bw_x_29 : Below wr1.heap.size wr1 w_x_29 := by rw [← hw_x_29]; exact (Below.refl _ _).alloc (Nat.le_refl _) _
          have Dx_29_out_7l1 := Lib.hid (apart_fresh Oout_7l1.out)
          have HBw_x_29 := Lib.hid (Below.step HBwr1.out bw_x_29)
          have ct_27_0__242 := cell_below bw_x_29 ct_27_0
          have ct_27_1__243 := cell_below bw_x_29 ct_27_1
          have ct_27_2__244 := cell_below bw_x_29 ct_27_2
          have ct_27_3__245 := cell_below bw_x_29 ct_27_3
          replace Oout_7l1 := Lib.hid (own_below Oout_7l1.out bw_x_29)
          clear bw_x_29
          have kx_29_0 : w_x_29.cell? ⟨wr1.heap.size, 0, none⟩ = some (.int .i64 t_27_leave) := by rw [← hw_x_29]; exact box_new _ _ _ 0 _ rfl
          have kx_29_1 : w_x_29.cell? ⟨wr1.heap.size, 1, none⟩ = some (.int .i64 t_27_from_) := by rw [← hw_x_29]; exact box_new _ _ _ 1 _ rfl
          have kx_29_2 : w_x_29.cell? ⟨wr1.heap.size, 2, none⟩ = some (.int .i64 t_27_to_) := by rw [← hw_x_29]; exact box_new _ _ _ 2 _ rfl
          have kx_29_3 : w_x_29.cell? ⟨wr1.heap.size, 3, none⟩ = some (.int .i64 t_27_arrive) := by rw [← hw_x_29]; exact box_new _ _ _ 3 _ rfl
          go_wp2_with fail
          clear ct_27_0 ct_27_1 ct_27_2 ct_27_3
          have Hct_27_0__242 := Lib.hid ct_27_0__242
          replace ct_27_0__242 := cell_regrown ct_27_0__242
          have Hct_27_1__243 := Lib.hid ct_27_1__243
          replace ct_27_1__243 := cell_regrown ct_27_1__243
          have Hct_27_2__244 := Lib.hid ct_27_2__244
          replace ct_27_2__244 := cell_regrown ct_27_2__244
          have Hct_27_3__245 := Lib.hid ct_27_3__245
          replace ct_27_3__245 := cell_regrown ct_27_3__245
          have Hkx_29_0 := Lib.hid kx_29_0
          replace kx_29_0 := cell_regrown kx_29_0
          have Hkx_29_1 := Lib.hid kx_29_1
          replace kx_29_1 := cell_regrown kx_29_1
          have Hkx_29_2 := Lib.hid kx_29_2
          replace kx_29_2 := cell_regrown kx_29_2
          have Hkx_29_3 := Lib.hid kx_29_3
          replace kx_29_3 := cell_regrown kx_29_3
          replace H := idx_hid H
          obtain ⟨nt_34, yt_34, et_34, lt_34, gt_34, H⟩ := H
          subst et_34
          have hqt_34 := hnout_7l1.out
          obtain ⟨ab_t_34, ao_t_34, zt_34, At_34, z_t_34, ct_34_0⟩ := Go.Proofs.YtfjcibkgbalkaaaDoor.HelpInt.Ints.at_ (own_cells Oout_7l1.out) (k := nt_34) (by omega)
          obtain rfl := Option.some.inj (gt_34.out.symm.trans z_t_34)
          simp only [Option.some.injEq, Addr.mk.injEq] at At_34
          obtain ⟨rfl, rfl, _⟩ := At_34
          clear z_t_34
          simp only [Nat.zero_add] at ct_34_0
          have b0t_34 : (0 : Int) ≤ (nt_34 : Int) := by omega
          have b1t_34 : (nt_34 : Int) < ((t_1.length : Nat) : Int) := by omega
          have b2t_34 : ((nt_34 : Int)).toNat = nt_34 := by omega
          clear hqt_34
          have Hct_34_0 := Lib.hid ct_34_0
          replace ct_34_0 := cell_regrown ct_34_0
          replace H := let_hid H
          obtain ⟨t_38, ht_38, H⟩ := H
          refine wp_region_quiet_below (by kernel_rfl) (by kernel_rfl) ?_
          repeat (go_big_quiet_step (fail))
          refine wpQuiet_nil ?_
          intro Y11 hY11
          replace hY11 := below_class hY11
          replace ct_27_0__242 := Hct_27_0__242.out
          clear Hct_27_0__242
          replace ct_27_1__243 := Hct_27_1__243.out
          clear Hct_27_1__243
          replace ct_27_2__244 := Hct_27_2__244.out
          clear Hct_27_2__244
          replace ct_27_3__245 := Hct_27_3__245.out
          clear Hct_27_3__245
          replace kx_29_0 := Hkx_29_0.out
          clear Hkx_29_0
          replace kx_29_1 := Hkx_29_1.out
          clear Hkx_29_1
          replace kx_29_2 := Hkx_29_2.out
          clear Hkx_29_2
          replace kx_29_3 := Hkx_29_3.out
          clear Hkx_29_3
          replace ct_34_0 := Hct_34_0.out
          clear Hct_34_0
          have HBY11 := Lib.hid (Below.step HBw_x_29.out hY11)
          replace ct_27_0__242 := cell_below hY11 ct_27_0__242
          replace ct_27_1__243 := cell_below hY11 ct_27_1__243
          replace ct_27_2__244 := cell_below hY11 ct_27_2__244
          replace ct_27_3__245 := cell_below hY11 ct_27_3__245
          replace kx_29_0 := cell_below hY11 kx_29_0
          replace kx_29_1 := cell_below hY11 kx_29_1
          replace kx_29_2 := cell_below hY11 kx_29_2
          replace kx_29_3 := cell_below hY11 kx_29_3
          replace ct_34_0 := cell_below hY11 ct_34_0
          replace Oout_7l1 := Lib.hid (own_below Oout_7l1.out hY11)
          clear hY11
          cases t_38 with
          | false =>
            replace H := ite_f H
            replace H := app_hid H
            go_wp2_with fail
            go_roundg m1
            case measure => omega
            case rel => exact ⟨k1 + 1, _, by omega, by go_num, H, HBY11, Oout_7l1, Lib.hid (hnout_7l1.out)⟩
          | true =>
            replace H := ite_t H
            go_wp2_with fail
            obtain ⟨Z12, hZ12⟩ : ∃ x, Y11.drew = x := ⟨_, rfl⟩
            have bd12 : Below Y11.heap.size Y11 Z12 := by rw [← hZ12]; exact (Below.refl _ _).drew
            have HBZ12 := Lib.hid (Below.step HBY11.out bd12)
            replace ct_27_0__242 := cell_below bd12 ct_27_0__242
            replace ct_27_1__243 := cell_below bd12 ct_27_1__243
            replace ct_27_2__244 := cell_below bd12 ct_27_2__244
            replace ct_27_3__245 := cell_below bd12 ct_27_3__245
            replace kx_29_0 := cell_below bd12 kx_29_0
            replace kx_29_1 := cell_below bd12 kx_29_1
            replace kx_29_2 := cell_below bd12 kx_29_2
            replace kx_29_3 := cell_below bd12 kx_29_3
            replace ct_34_0 := cell_below bd12 ct_34_0
            replace Oout_7l1 := Lib.hid (own_below Oout_7l1.out bd12)
            clear bd12
            replace H := idx_hid H
            obtain ⟨nt_45, yt_45, et_45, lt_45, gt_45, H⟩ := H
            subst et_45
            have hqt_45 := hnout_7l1.out
            obtain ⟨ab_t_45, ao_t_45, zt_45, At_45, z_t_45, ct_45_0⟩ := Go.Proofs.YtfjcibkgbalkaaaDoor.HelpInt.Ints.at_ (own_cells Oout_7l1.out) (k := nt_45) (by omega)
            obtain rfl := Option.some.inj (gt_45.out.symm.trans z_t_45)
            simp only [Option.some.injEq, Addr.mk.injEq] at At_45
            obtain ⟨rfl, rfl, _⟩ := At_45
            clear z_t_45
            simp only [Nat.zero_add] at ct_45_0
            have b0t_45 : (0 : Int) ≤ (nt_45 : Int) := by omega
            have b1t_45 : (nt_45 : Int) < ((t_1.length : Nat) : Int) := by omega
            have b2t_45 : ((nt_45 : Int)).toNat = nt_45 := by omega
            clear hqt_45
            replace H := bind_hid H
            obtain ⟨t_49, qt_49, H⟩ := H
            replace H := idx_hid H
            obtain ⟨nt_50, yt_50, et_50, lt_50, gt_50, H⟩ := H
            obtain rfl : nt_45 = nt_50 := by omega
            clear et_50
            obtain rfl := Option.some.inj (gt_45.out.symm.trans gt_50.out)
            clear gt_50 lt_50
            refine wp_region_still_tail 12 (by kernel_rfl) (by kernel_rfl) ?_
            simp only [List.take_succ_cons, List.take_zero, List.drop_succ_cons, List.drop_zero]
            change wpStill _ _ Y11.drew _ _ _
            rw [hZ12]
            still_step
            still_step
            still_step
            still_step
            still_step
            still_step
            still_step
            still_step
            still_step
            still_step
            still_call (Go.Proofs.YtfjcibkgbalkaaaDoor.GsL1Least.C0 (yt_45) (t_27_arrive)  _    qt_49)
            still_step
            refine wpStill_nil ?_
            change wpList _ _ _ _ _ Y11.drew
            rw [hZ12]
            clear hZ12
            replace H := let_hid H
            obtain ⟨l51_51, hl51_51, H⟩ := H
            try simp only [Int.toNat_natCast] at hl51_51
            obtain ⟨wl51_51, hwl51_51⟩ : ∃ x, (Z12).setCell ⟨w.heap.size, nt_45, none⟩ (.int .i64 t_49) = x := ⟨_, rfl⟩
            have z0l51_51 := Oout_7l1.out.frozenAt (nt_45)
            have Sl51_51 := Lib.hid (own_stores [(nt_45, .int .i64 t_49)] Oout_7l1.out)
            have nl51_51 : Hid (l51_51.length = t_1.length) := Lib.hid (by rw [← hl51_51, List.length_set]; exact hnout_7l1.out)
            have Pl51_51 : Hid (wl51_51.ownsRow w.heap.size 3 1 (.slice (some ⟨w.heap.size, 0, none⟩) t_1.length 10) t_1.length (Go.Proofs.YtfjcibkgbalkaaaDoor.HelpInt.iv l51_51)) := Lib.hid (by have e_ : ([(nt_45, .int .i64 t_49)] : List (Nat × Value)).foldl (fun xs p => xs.set p.1 p.2) (Go.Proofs.YtfjcibkgbalkaaaDoor.HelpInt.iv out_7l1) = (Go.Proofs.YtfjcibkgbalkaaaDoor.HelpInt.iv l51_51) := (by rw [← hl51_51]; first | done | simp [Go.Proofs.YtfjcibkgbalkaaaDoor.HelpInt.iv, List.map_set]); rw [← hwl51_51, ← e_]; exact Sl51_51.out.1)
            have Gl51_51 : Hid (Z12.grownBy wl51_51 (Value.slice (some ⟨w.heap.size, 0, none⟩) t_1.length 10).ownBlock) := Lib.hid (by rw [← hwl51_51]; exact Sl51_51.out.2)
            have HBwl51_51 := Lib.hid (HBZ12.out.grown Gl51_51.out HBZ12.out.size (fun q hq => (Oout_7l1.out.lt q hq).1))
            have hhl51_51 := Lib.hid hl51_51
            clear hl51_51 Sl51_51
            have ct_27_0__246 := cell_other ct_27_0__242 Gl51_51.out (apart_old Oout_7l1.out ltt_27)
            have ct_27_1__247 := cell_other ct_27_1__243 Gl51_51.out (apart_old Oout_7l1.out ltt_27)
            have ct_27_2__248 := cell_other ct_27_2__244 Gl51_51.out (apart_old Oout_7l1.out ltt_27)
            have ct_27_3__249 := cell_other ct_27_3__245 Gl51_51.out (apart_old Oout_7l1.out ltt_27)
            have kx_29_0__250 := cell_other kx_29_0 Gl51_51.out (Apart.symm Dx_29_out_7l1.out)
            have kx_29_1__251 := cell_other kx_29_1 Gl51_51.out (Apart.symm Dx_29_out_7l1.out)
            have kx_29_2__252 := cell_other kx_29_2 Gl51_51.out (Apart.symm Dx_29_out_7l1.out)
            have kx_29_3__253 := cell_other kx_29_3 Gl51_51.out (Apart.symm Dx_29_out_7l1.out)
            clear Oout_7l1 Gl51_51
            replace H := app_hid H
            go_wp2_with fail
            clear z0l51_51 ct_27_0__242 ct_27_1__243 ct_27_2__244 ct_27_3__245 kx_29_0 kx_29_1 kx_29_2 kx_29_3 ct_34_0 ct_45_0
            go_roundg m1
            case measure => omega
            case rel => exact ⟨k1 + 1, _, by omega, by go_num, H, HBwl51_51, Pl51_51, Lib.hid (nl51_51.out)⟩
    | succ m0 =>
      have hlt0 : k0 < t_1.length := by omega
      have hc0 : decide ((k0 : Int) < ((t_1.length : Nat) : Int)) = true := by simp; omega
      replace H := cnt_succ H
      unfold l0 at H
      replace H := let_hid H
      obtain ⟨_, rfl, H⟩ := H
      replace H := idx_hid H
      obtain ⟨nt_10, yt_10, et_10, lt_10, gt_10, H⟩ := H
      obtain rfl : k0 = nt_10 := by omega
      clear et_10
      have hqt_10 := hnout_7l0.out
      obtain ⟨ab_t_10, ao_t_10, zt_10, At_10, z_t_10, ct_10_0⟩ := Go.Proofs.YtfjcibkgbalkaaaDoor.HelpInt.Ints.at_ (own_cells Oout_7l0.out) (k := k0) (by omega)
      obtain rfl := Option.some.inj (gt_10.out.symm.trans z_t_10)
      simp only [Option.some.injEq, Addr.mk.injEq] at At_10
      obtain ⟨rfl, rfl, _⟩ := At_10
      clear z_t_10
      simp only [Nat.zero_add] at ct_10_0
      have b0t_10 : (0 : Int) ≤ (k0 : Int) := by omega
      have b1t_10 : (k0 : Int) < ((t_1.length : Nat) : Int) := by omega
      have b2t_10 : ((k0 : Int)).toNat = k0 := by omega
      clear hqt_10
      replace H := let_hid H
      obtain ⟨l11_11, hl11_11, H⟩ := H
      try simp only [Int.toNat_natCast] at hl11_11
      obtain ⟨wl11_11, hwl11_11⟩ : ∃ x, (wr0).setCell ⟨w.heap.size, k0, none⟩ (.int .i64 10000) = x := ⟨_, rfl⟩
      have z0l11_11 := Oout_7l0.out.frozenAt (k0)
      have Sl11_11 := Lib.hid (own_stores [(k0, .int .i64 10000)] Oout_7l0.out)
      have nl11_11 : Hid (l11_11.length = t_1.length) := Lib.hid (by rw [← hl11_11, List.length_set]; exact hnout_7l0.out)
      have Pl11_11 : Hid (wl11_11.ownsRow w.heap.size 3 1 (.slice (some ⟨w.heap.size, 0, none⟩) t_1.length 10) t_1.length (Go.Proofs.YtfjcibkgbalkaaaDoor.HelpInt.iv l11_11)) := Lib.hid (by have e_ : ([(k0, .int .i64 10000)] : List (Nat × Value)).foldl (fun xs p => xs.set p.1 p.2) (Go.Proofs.YtfjcibkgbalkaaaDoor.HelpInt.iv out_7l0) = (Go.Proofs.YtfjcibkgbalkaaaDoor.HelpInt.iv l11_11) := (by rw [← hl11_11]; first | done | simp [Go.Proofs.YtfjcibkgbalkaaaDoor.HelpInt.iv, List.map_set]); rw [← hwl11_11, ← e_]; exact Sl11_11.out.1)
      have Gl11_11 : Hid (wr0.grownBy wl11_11 (Value.slice (some ⟨w.heap.size, 0, none⟩) t_1.length 10).ownBlock) := Lib.hid (by rw [← hwl11_11]; exact Sl11_11.out.2)
      have HBwl11_11 := Lib.hid (HBwr0.out.grown Gl11_11.out HBwr0.out.size (fun q hq => (Oout_7l0.out.lt q hq).1))
      have hhl11_11 := Lib.hid hl11_11
      clear hl11_11 Sl11_11
      clear Oout_7l0 Gl11_11
      replace H := app_hid H
      go_wp2_with fail
      clear z0l11_11 ct_10_0
      go_roundg m0
      case measure => omega
      case rel => exact ⟨k0 + 1, _, by omega, by go_num, H, HBwl11_11, Pl11_11, Lib.hid (nl11_11.out)⟩
end Go.Proofs.YtfjcibkgbalkaaaDoor.GsL9Times

/- loop.example/g01062/spec.LatestLeave as a plain function, and the contract of the program's: where the plain one has an answer, the program has it. Conditions: slices read as lists. -/
namespace Go.Proofs.YtfjcibkgbalkaaaDoor.GsLatestLeave
set_option linter.unusedVariables false
set_option linter.unusedSimpArgs false
open Go.RowKit
open Go.Proofs.YtfjcibkgbalkaaaDoor.Rowed Go.Proofs.YtfjcibkgbalkaaaDoor.Turn Go.Proofs.YtfjcibkgbalkaaaDoor.Aid Go.Proofs.YtfjcibkgbalkaaaDoor.GoP Go.Proofs.YtfjcibkgbalkaaaDoor.GoM

def l0 (list : (List Go.Proofs.YtfjcibkgbalkaaaDoor.PMail.Mail)) (from_1 : Int) (to_2 : Int) (by_3 : Int) (s : Int) (nx0 bk0 : Int → Option (Int × Bool)) : Option (Int × Bool) :=
  letK s fun i_10l0 =>
  letK (decide (0 ≤ i_10l0)) fun (t_24 : Bool) =>
  iteK t_24
  (Option.bind (idx list i_10l0) fun (yt_27 : Go.Proofs.YtfjcibkgbalkaaaDoor.PMail.Mail) =>
  unMail yt_27 fun (t_27_leave : Int) (t_27_from_ : Int) (t_27_to_ : Int) (t_27_arrive : Int) =>
  letK (t_27_from_ == from_1) fun (t_34 : Bool) =>
  joinK (fun (t_40 : Bool) =>
  joinK (fun (t_53 : Bool) =>
  iteK t_53
  (some (t_27_leave, true))
  (letK (IntKind.i64.wrap (i_10l0 - 1)) fun (t_59 : Int) =>
  appK nx0 (t_59))) fun jt_53 => iteK t_40 (Option.bind (Go.Proofs.YtfjcibkgbalkaaaDoor.GsL9Times.P list t_27_to_ t_27_arrive) fun (t_47 : (List Int)) =>
  Option.bind (idx t_47 to_2) fun (yt_49 : Int) =>
  letK (decide (yt_49 ≤ by_3)) fun (t_52 : Bool) =>
  appK jt_53 t_52) (appK jt_53 false)) fun jt_40 => iteK t_34 (letK (decide (t_27_arrive ≤ by_3)) fun (t_39 : Bool) =>
  appK jt_40 t_39) (appK jt_40 false))
  (appK bk0 (i_10l0))

def e0  (s : Int) : Option (Int × Bool) :=
  letK s fun i_10l0 =>
  some (0, false)

def P (fuel : Nat) (list : (List Go.Proofs.YtfjcibkgbalkaaaDoor.PMail.Mail)) (from_1 : Int) (to_2 : Int) (by_3 : Int) : Option (Int × Bool) :=
  Option.bind (Go.Proofs.YtfjcibkgbalkaaaDoor.GsL9Asked.P list from_1 by_3) fun (t_5 : Bool) =>
  letK (!t_5) fun (t_6 : Bool) =>
  joinK (fun (t_11 : Bool) =>
  joinK (fun (t_16 : Bool) =>
  iteK t_16
  (some (0, false))
  (letK (IntKind.i64.wrap ((list.length : Int) - 1)) fun (t_21 : Int) =>
  loopK (l0 list from_1 to_2 by_3) fuel (t_21) (e0 ))) fun jt_16 => iteK t_11 (appK jt_16 true) (letK (from_1 == to_2) fun (t_15 : Bool) =>
  appK jt_16 t_15)) fun jt_11 => iteK t_6 (appK jt_11 true) (Option.bind (Go.Proofs.YtfjcibkgbalkaaaDoor.GsL9Office.P to_2) fun (t_9 : Bool) =>
  letK (!t_9) fun (t_10 : Bool) =>
  appK jt_11 t_10)

set_option maxRecDepth 100000 in
set_option maxHeartbeats 2000000 in
theorem C (fuel : Nat) (list : (List Go.Proofs.YtfjcibkgbalkaaaDoor.PMail.Mail)) (from_1 : Int) (to_2 : Int) (by_3 : Int) (A0 : Option Addr) (c0 : Nat)  (w : World) (M0 : Hid (Cells w 4 A0 list.length (Go.Proofs.YtfjcibkgbalkaaaDoor.PMail.flat list))) (N0 : Hid (list.length ≤ 9223372036854775807))  {r0 : Int} {r1 : Bool} (H : Hid (P fuel list from_1 to_2 by_3 = some (r0, r1))) :
    Calls Tryd.prog 26 #[.slice A0 list.length c0, .int .i64 from_1, .int .i64 to_2, .int .i64 by_3] w (Gives (.tuple #[.int .i64 r0, .bool r1]) w) := by
  have HB := Lib.hid (Below.refl w.heap.size w)
  unfold P at H
  have N0o := N0.out
  go_enter Tryd.func26, Tryd.ntmps26
  replace H := bind_hid H
  obtain ⟨t_5, qt_5, H⟩ := H
  go_wp2_with fail
  go_at_call 66
  refine (Go.Proofs.YtfjcibkgbalkaaaDoor.GsL9Asked.C (list) (from_1) (by_3) A0 c0 _   (Lib.hid (Cells.below M0.out HB.out)) N0 qt_5).mono ?_
  rintro e_t_5 wt_5 ⟨rfl, bt_5⟩
  have HBwt_5 := Lib.hid (Below.step HB.out bt_5)
  clear bt_5
  cases t_5 with
  | false =>
    replace H := let_hid H
    obtain ⟨t_6, ht_6, H⟩ := H
    obtain rfl : t_6 = true := ht_6.symm
    replace H := join_hid H
    replace H := ite_t H
    replace H := app_hid H
    replace H := join_hid H
    replace H := ite_t H
    replace H := app_hid H
    replace H := ite_t H
    cases ret_hid H
    go_wp2_with fail
    go_ret2
    exact ⟨rfl, HBwt_5.out⟩
  | true =>
    replace H := let_hid H
    obtain ⟨t_6, ht_6, H⟩ := H
    obtain rfl : t_6 = false := ht_6.symm
    replace H := join_hid H
    replace H := ite_f H
    replace H := bind_hid H
    obtain ⟨t_9, qt_9, H⟩ := H
    go_wp2_with fail
    go_at_call 67
    refine (Go.Proofs.YtfjcibkgbalkaaaDoor.GsL9Office.C (to_2)  _    qt_9).mono ?_
    rintro e_t_9 wt_9 ⟨rfl, bt_9⟩
    have HBwt_9 := Lib.hid (Below.step HBwt_5.out bt_9)
    clear bt_9
    cases t_9 with
    | false =>
      replace H := let_hid H
      obtain ⟨t_10, ht_10, H⟩ := H
      obtain rfl : t_10 = true := ht_10.symm
      replace H := app_hid H
      replace H := join_hid H
      replace H := ite_t H
      replace H := app_hid H
      replace H := ite_t H
      cases ret_hid H
      go_wp2_with fail
      go_ret2
      exact ⟨rfl, HBwt_9.out⟩
    | true =>
      replace H := let_hid H
      obtain ⟨t_10, ht_10, H⟩ := H
      obtain rfl : t_10 = false := ht_10.symm
      replace H := app_hid H
      replace H := join_hid H
      replace H := ite_f H
      replace H := let_hid H
      obtain ⟨t_15, ht_15, H⟩ := H
      replace H := app_hid H
      cases t_15 with
      | false =>
        replace H := ite_f H
        replace H := let_hid H
        obtain ⟨t_21, ht_21, H⟩ := H
        try have hv_t_21 : (list.length : Int) - 1 = t_21 := by rw [← ht_21]; exact (IntWalk.i64_in _ (by omega)).symm
        try have hv2_t_21 : IntKind.i64.wrap t_21 = t_21 := by rw [← hv_t_21]; exact IntWalk.i64_in _ (by omega)
        go_wp2_with fail
        go_loopg [10] (fuel) (fun m_ v10_ wr => ∃ (i_10l0 : Int), v10_ = .int .i64 i_10l0 ∧ Hid (loopK (l0 list from_1 to_2 by_3) m_ (i_10l0) (e0 ) = some (r0, r1)) ∧ Hid (Below w.heap.size w wr))
        case atStart => exact ⟨_, rfl, H, HBwt_9⟩
        case round =>
          obtain ⟨i_10l0, rfl, H, HBwr0⟩ := hrel
          rename World => wr0
          cases gk with
          | zero => exact (loop_zero H).elim
          | succ m0 =>
            replace H := loop_succ H
            unfold l0 at H
            replace H := let_hid H
            obtain ⟨_, rfl, H⟩ := H
            replace H := let_hid H
            obtain ⟨t_24, ht_24, H⟩ := H
            cases t_24 with
            | false =>
              replace H := ite_f H
              replace H := app_hid H
              unfold e0 at H
              replace H := let_hid H
              obtain ⟨_, rfl, H⟩ := H
              cases ret_hid H
              go_wp2_with fail
              go_ret2
              exact ⟨rfl, HBwr0.out⟩
            | true =>
              replace H := ite_t H
              replace H := idx_hid H
              obtain ⟨nt_27, yt_27, et_27, lt_27, gt_27, H⟩ := H
              subst et_27
              have nc_254 : 0 ≤ nt_27 := by have := of_decide_eq_true ht_24; omega
              obtain ⟨t_27_leave, t_27_from_, t_27_to_, t_27_arrive⟩ := yt_27
              replace H := unMail_hid H
              obtain ⟨ab_t_27, ao_t_27, zt_27, At_27, z_t_27, ct_27_0, ct_27_1, ct_27_2, ct_27_3⟩ := Go.Proofs.YtfjcibkgbalkaaaDoor.OMail.at_ M0.out lt_27
              obtain rfl := Option.some.inj (gt_27.out.symm.trans z_t_27)
              subst At_27
              have ltt_27 := cell_lt ct_27_0
              replace ct_27_0 := cell_below HBwr0.out ct_27_0
              replace ct_27_1 := cell_below HBwr0.out ct_27_1
              replace ct_27_2 := cell_below HBwr0.out ct_27_2
              replace ct_27_3 := cell_below HBwr0.out ct_27_3
              clear z_t_27
              have b0t_27 : (0 : Int) ≤ (nt_27 : Int) := by omega
              have b1t_27 : (nt_27 : Int) < ((list.length : Nat) : Int) := by omega
              have b2t_27 : ((nt_27 : Int)).toNat = nt_27 := by omega
              obtain ⟨w_x_29, hw_x_29⟩ : ∃ x, wr0.alloc (.cells #[.int .i64 t_27_leave, .int .i64 t_27_from_, .int .i64 t_27_to_, .int .i64 t_27_arrive] 54) = x := ⟨_, rfl⟩
              have bw_x_29 : Below wr0.heap.size wr0 w_x_29 := by rw [← hw_x_29]; exact (Below.refl _ _).alloc (Nat.le_refl _) _
              have HBw_x_29 := Lib.hid (Below.step HBwr0.out bw_x_29)
              have ct_27_0__255 := cell_below bw_x_29 ct_27_0
              have ct_27_1__256 := cell_below bw_x_29 ct_27_1
              have ct_27_2__257 := cell_below bw_x_29 ct_27_2
              have ct_27_3__258 := cell_below bw_x_29 ct_27_3
              clear bw_x_29
              have kx_29_0 : w_x_29.cell? ⟨wr0.heap.size, 0, none⟩ = some (.int .i64 t_27_leave) := by rw [← hw_x_29]; exact box_new _ _ _ 0 _ rfl
              have kx_29_1 : w_x_29.cell? ⟨wr0.heap.size, 1, none⟩ = some (.int .i64 t_27_from_) := by rw [← hw_x_29]; exact box_new _ _ _ 1 _ rfl
              have kx_29_2 : w_x_29.cell? ⟨wr0.heap.size, 2, none⟩ = some (.int .i64 t_27_to_) := by rw [← hw_x_29]; exact box_new _ _ _ 2 _ rfl
              have kx_29_3 : w_x_29.cell? ⟨wr0.heap.size, 3, none⟩ = some (.int .i64 t_27_arrive) := by rw [← hw_x_29]; exact box_new _ _ _ 3 _ rfl
              replace H := let_hid H
              obtain ⟨t_34, ht_34, H⟩ := H
              replace H := join_hid H
              cases t_34 with
              | false =>
                replace H := ite_f H
                replace H := app_hid H
                replace H := join_hid H
                replace H := ite_f H
                replace H := app_hid H
                replace H := ite_f H
                replace H := let_hid H
                obtain ⟨t_59, ht_59, H⟩ := H
                replace H := app_hid H
                go_wp2_with fail
                clear ct_27_0 ct_27_1 ct_27_2 ct_27_3
                go_roundg m0
                case measure => omega
                case rel => exact ⟨_, rfl, H, HBw_x_29⟩
              | true =>
                replace H := ite_t H
                replace H := let_hid H
                obtain ⟨t_39, ht_39, H⟩ := H
                replace H := app_hid H
                replace H := join_hid H
                cases t_39 with
                | false =>
                  replace H := ite_f H
                  replace H := app_hid H
                  replace H := ite_f H
                  replace H := let_hid H
                  obtain ⟨t_59, ht_59, H⟩ := H
                  replace H := app_hid H
                  go_wp2_with fail
                  clear ct_27_0 ct_27_1 ct_27_2 ct_27_3
                  go_roundg m0
                  case measure => omega
                  case rel => exact ⟨_, rfl, H, HBw_x_29⟩
                | true =>
                  replace H := ite_t H
                  replace H := bind_hid H
                  obtain ⟨t_47, qt_47, H⟩ := H
                  go_wp2_with fail
                  clear ct_27_0 ct_27_1 ct_27_2 ct_27_3
                  go_at_call 68
                  refine (Go.Proofs.YtfjcibkgbalkaaaDoor.GsL9Times.C (list) (t_27_to_) (t_27_arrive) (some ⟨ab_t_27, ao_t_27, none⟩) c0 _   (Lib.hid (Cells.below M0.out HBw_x_29.out)) N0 qt_47).mono ?_
                  rintro e_t_47 wt_47 ⟨At_47, ct_47, rfl, ot_47, bt_47⟩
                  have Dt_47_x_29 := Lib.hid (apart_callbox ot_47 kx_29_0)
                  have Ot_47 := Lib.hid (own_lower ot_47 HBw_x_29.out.size)
                  clear ot_47
                  have HBwt_47 := Lib.hid (Below.step HBw_x_29.out bt_47)
                  replace ct_27_0__255 := cell_below bt_47 ct_27_0__255
                  replace ct_27_1__256 := cell_below bt_47 ct_27_1__256
                  replace ct_27_2__257 := cell_below bt_47 ct_27_2__257
                  replace ct_27_3__258 := cell_below bt_47 ct_27_3__258
                  replace kx_29_0 := cell_below bt_47 kx_29_0
                  replace kx_29_1 := cell_below bt_47 kx_29_1
                  replace kx_29_2 := cell_below bt_47 kx_29_2
                  replace kx_29_3 := cell_below bt_47 kx_29_3
                  clear bt_47
                  replace H := idx_hid H
                  obtain ⟨nt_49, yt_49, et_49, lt_49, gt_49, H⟩ := H
                  subst et_49
                  obtain ⟨qt_49, Qt_49⟩ := own_some Ot_47.out (by omega)
                  subst Qt_49
                  obtain ⟨ab_t_49, ao_t_49, zt_49, At_49, z_t_49, ct_49_0⟩ := Go.Proofs.YtfjcibkgbalkaaaDoor.HelpInt.Ints.at_ (own_cells Ot_47.out) (k := nt_49) (by omega)
                  obtain rfl := Option.some.inj (gt_49.out.symm.trans z_t_49)
                  simp only [Option.some.injEq, Addr.mk.injEq] at At_49
                  obtain ⟨rfl, rfl, _⟩ := At_49
                  clear z_t_49
                  simp only [Nat.zero_add] at ct_49_0
                  have b0t_49 : (0 : Int) ≤ (nt_49 : Int) := by omega
                  have b1t_49 : (nt_49 : Int) < ((t_47.length : Nat) : Int) := by omega
                  have b2t_49 : ((nt_49 : Int)).toNat = nt_49 := by omega
                  replace H := let_hid H
                  obtain ⟨t_52, ht_52, H⟩ := H
                  replace H := app_hid H
                  cases t_52 with
                  | false =>
                    replace H := ite_f H
                    replace H := let_hid H
                    obtain ⟨t_59, ht_59, H⟩ := H
                    replace H := app_hid H
                    go_wp2_with fail
                    go_roundg m0
                    case measure => omega
                    case rel => exact ⟨_, rfl, H, HBwt_47⟩
                  | true =>
                    replace H := ite_t H
                    cases ret_hid H
                    go_wp2_with fail
                    go_ret2
                    exact ⟨rfl, HBwt_47.out⟩
      | true =>
        replace H := ite_t H
        cases ret_hid H
        go_wp2_with fail
        go_ret2
        exact ⟨rfl, HBwt_9.out⟩
end Go.Proofs.YtfjcibkgbalkaaaDoor.GsLatestLeave

/- loop.example/g01062/impl.canBegin as a plain function, and the contract of the program's: where the plain one has an answer, the program has it. Conditions: slices read as lists. -/
namespace Go.Proofs.YtfjcibkgbalkaaaDoor.GiCanBegin
set_option linter.unusedVariables false
set_option linter.unusedSimpArgs false
open Go.RowKit
open Go.Proofs.YtfjcibkgbalkaaaDoor.Rowed Go.Proofs.YtfjcibkgbalkaaaDoor.Turn Go.Proofs.YtfjcibkgbalkaaaDoor.Aid Go.Proofs.YtfjcibkgbalkaaaDoor.GoP Go.Proofs.YtfjcibkgbalkaaaDoor.GoM

def P (list : (List Go.Proofs.YtfjcibkgbalkaaaDoor.PMail.Mail)) (from_1 : Int) (minute : Int) : Option (Bool) :=
  Option.bind (Go.Proofs.YtfjcibkgbalkaaaDoor.GiIsTimetable.P list) fun (t_2 : Bool) =>
  joinK (fun (t_6 : Bool) =>
  joinK (fun (t_10 : Bool) =>
  some t_10) fun jt_10 => iteK t_6 (Option.bind (Go.Proofs.YtfjcibkgbalkaaaDoor.GiIsMinute.P minute) fun (t_9 : Bool) =>
  appK jt_10 t_9) (appK jt_10 false)) fun jt_6 => iteK t_2 (Option.bind (Go.Proofs.YtfjcibkgbalkaaaDoor.GiIsPostOffice.P from_1) fun (t_5 : Bool) =>
  appK jt_6 t_5) (appK jt_6 false)

set_option maxRecDepth 100000 in
set_option maxHeartbeats 2000000 in
theorem C (list : (List Go.Proofs.YtfjcibkgbalkaaaDoor.PMail.Mail)) (from_1 : Int) (minute : Int) (A0 : Option Addr) (c0 : Nat)  (w : World) (M0 : Hid (Cells w 4 A0 list.length (Go.Proofs.YtfjcibkgbalkaaaDoor.PMail.flat list))) (N0 : Hid (list.length ≤ 9223372036854775807))  {r : Bool} (H : Hid (P list from_1 minute = some r)) :
    Calls Tryd.prog 69 #[.slice A0 list.length c0, .int .i64 from_1, .int .i64 minute] w (Gives (.bool r) w) := by
  have HB := Lib.hid (Below.refl w.heap.size w)
  unfold P at H
  have N0o := N0.out
  go_enter Tryd.func69, Tryd.ntmps69
  replace H := bind_hid H
  obtain ⟨t_2, qt_2, H⟩ := H
  go_wp2_with fail
  go_at_call 62
  refine (Go.Proofs.YtfjcibkgbalkaaaDoor.GiIsTimetable.C (list) A0 c0 _   (Lib.hid (Cells.below M0.out HB.out)) N0 qt_2).mono ?_
  rintro e_t_2 wt_2 ⟨rfl, bt_2⟩
  have HBwt_2 := Lib.hid (Below.step HB.out bt_2)
  clear bt_2
  replace H := join_hid H
  cases t_2 with
  | false =>
    replace H := ite_f H
    replace H := app_hid H
    replace H := join_hid H
    replace H := ite_f H
    replace H := app_hid H
    obtain rfl := ret_hid H
    go_wp2_with fail
    go_ret
    exact ⟨rfl, HBwt_2.out⟩
  | true =>
    replace H := ite_t H
    replace H := bind_hid H
    obtain ⟨t_5, qt_5, H⟩ := H
    go_wp2_with fail
    go_at_call 63
    refine (Go.Proofs.YtfjcibkgbalkaaaDoor.GiIsPostOffice.C (from_1)  _    qt_5).mono ?_
    rintro e_t_5 wt_5 ⟨rfl, bt_5⟩
    have HBwt_5 := Lib.hid (Below.step HBwt_2.out bt_5)
    clear bt_5
    replace H := app_hid H
    replace H := join_hid H
    cases t_5 with
    | false =>
      replace H := ite_f H
      replace H := app_hid H
      obtain rfl := ret_hid H
      go_wp2_with fail
      go_ret
      exact ⟨rfl, HBwt_5.out⟩
    | true =>
      replace H := ite_t H
      replace H := bind_hid H
      obtain ⟨t_9, qt_9, H⟩ := H
      go_wp2_with fail
      go_at_call 64
      refine (Go.Proofs.YtfjcibkgbalkaaaDoor.GiIsMinute.C (minute)  _    qt_9).mono ?_
      rintro e_t_9 wt_9 ⟨rfl, bt_9⟩
      have HBwt_9 := Lib.hid (Below.step HBwt_5.out bt_9)
      clear bt_9
      replace H := app_hid H
      obtain rfl := ret_hid H
      go_wp2_with fail
      go_ret
      exact ⟨rfl, HBwt_9.out⟩
end Go.Proofs.YtfjcibkgbalkaaaDoor.GiCanBegin

/- loop.example/g01062/impl.earliestMinutes as a plain function, and the contract of the program's: where the plain one has an answer, the program has it. Conditions: slices read as lists. -/
namespace Go.Proofs.YtfjcibkgbalkaaaDoor.GiEarliestMinutes
set_option linter.unusedVariables false
set_option linter.unusedSimpArgs false
open Go.RowKit
open Go.Proofs.YtfjcibkgbalkaaaDoor.Rowed Go.Proofs.YtfjcibkgbalkaaaDoor.Turn Go.Proofs.YtfjcibkgbalkaaaDoor.Aid Go.Proofs.YtfjcibkgbalkaaaDoor.GoP Go.Proofs.YtfjcibkgbalkaaaDoor.GoM

def l0 (list : (List Go.Proofs.YtfjcibkgbalkaaaDoor.PMail.Mail)) (k0 : Nat) (s : (List Int)) (nx0 bk0 : (List Int) → Option (Go.Proofs.YtfjcibkgbalkaaaDoor.PIntA10.IntA10)) : Option (Go.Proofs.YtfjcibkgbalkaaaDoor.PIntA10.IntA10) :=
  letK s fun earliest_7l0 =>
  Option.bind (idx list (k0 : Int)) fun (yt_12 : Go.Proofs.YtfjcibkgbalkaaaDoor.PMail.Mail) =>
  unMail yt_12 fun (t_12_leave : Int) (t_12_from_ : Int) (t_12_to_ : Int) (t_12_arrive : Int) =>
  Option.bind (idx earliest_7l0 t_12_from_) fun (yt_18 : Int) =>
  letK (decide (yt_18 ≤ t_12_leave)) fun (t_22 : Bool) =>
  iteK t_22
  (Option.bind (idx earliest_7l0 t_12_to_) fun (yt_27 : Int) =>
  letK (min yt_27 t_12_arrive) fun (t_31 : Int) =>
  Option.bind (idx earliest_7l0 t_12_to_) fun (yt_32 : Int) =>
  letK (earliest_7l0.set (t_12_to_).toNat t_31) fun (l33_33 : (List Int)) =>
  appK nx0 (l33_33))
  (appK nx0 (earliest_7l0))

def e0  (s : (List Int)) : Option (Go.Proofs.YtfjcibkgbalkaaaDoor.PIntA10.IntA10) :=
  letK s fun earliest_7l0 =>
  some (Go.Proofs.YtfjcibkgbalkaaaDoor.PIntA10.IntA10.mk (Go.Proofs.YtfjcibkgbalkaaaDoor.GoA.nth earliest_7l0 0) (Go.Proofs.YtfjcibkgbalkaaaDoor.GoA.nth earliest_7l0 1) (Go.Proofs.YtfjcibkgbalkaaaDoor.GoA.nth earliest_7l0 2) (Go.Proofs.YtfjcibkgbalkaaaDoor.GoA.nth earliest_7l0 3) (Go.Proofs.YtfjcibkgbalkaaaDoor.GoA.nth earliest_7l0 4) (Go.Proofs.YtfjcibkgbalkaaaDoor.GoA.nth earliest_7l0 5) (Go.Proofs.YtfjcibkgbalkaaaDoor.GoA.nth earliest_7l0 6) (Go.Proofs.YtfjcibkgbalkaaaDoor.GoA.nth earliest_7l0 7) (Go.Proofs.YtfjcibkgbalkaaaDoor.GoA.nth earliest_7l0 8) (Go.Proofs.YtfjcibkgbalkaaaDoor.GoA.nth earliest_7l0 9))

def P (list : (List Go.Proofs.YtfjcibkgbalkaaaDoor.PMail.Mail)) (from_1 : Int) (minute : Int) : Option (Go.Proofs.YtfjcibkgbalkaaaDoor.PIntA10.IntA10) :=
  Option.bind (Go.Proofs.YtfjcibkgbalkaaaDoor.GiFilledWith.P 10000) fun (t_1 : Go.Proofs.YtfjcibkgbalkaaaDoor.PIntA10.IntA10) =>
  unIntA10 t_1 fun (t_1_x0 : Int) (t_1_x1 : Int) (t_1_x2 : Int) (t_1_x3 : Int) (t_1_x4 : Int) (t_1_x5 : Int) (t_1_x6 : Int) (t_1_x7 : Int) (t_1_x8 : Int) (t_1_x9 : Int) =>
  letK ([t_1_x0, t_1_x1, t_1_x2, t_1_x3, t_1_x4, t_1_x5, t_1_x6, t_1_x7, t_1_x8, t_1_x9]) fun (vearliest_2 : (List Int)) =>
  Option.bind (idx vearliest_2 from_1) fun (yt_6 : Int) =>
  letK (vearliest_2.set (from_1).toNat minute) fun (l7_7 : (List Int)) =>
  cntK (l0 list) (list.length) 0 (l7_7) (e0 )

set_option maxRecDepth 100000 in
set_option maxHeartbeats 2000000 in
theorem C (list : (List Go.Proofs.YtfjcibkgbalkaaaDoor.PMail.Mail)) (from_1 : Int) (minute : Int) (A0 : Option Addr) (c0 : Nat)  (w : World) (M0 : Hid (Cells w 4 A0 list.length (Go.Proofs.YtfjcibkgbalkaaaDoor.PMail.flat list))) (N0 : Hid (list.length ≤ 9223372036854775807))  {r : Go.Proofs.YtfjcibkgbalkaaaDoor.PIntA10.IntA10} (H : Hid (P list from_1 minute = some r)) :
    Calls Tryd.prog 70 #[.slice A0 list.length c0, .int .i64 from_1, .int .i64 minute] w (Gives ((Go.Proofs.YtfjcibkgbalkaaaDoor.PIntA10.IntA10.val r)) w) := by
  have HB := Lib.hid (Below.refl w.heap.size w)
  unfold P at H
  have N0o := N0.out
  go_enter Tryd.func70, Tryd.ntmps70
  obtain ⟨w_t_0, hw_t_0⟩ : ∃ x, w.alloc (.cells #[.int .i64 0, .int .i64 0, .int .i64 0, .int .i64 0, .int .i64 0, .int .i64 0, .int .i64 0, .int .i64 0, .int .i64 0, .int .i64 0] 78) = x := ⟨_, rfl⟩
  have bw_t_0 : Below w.heap.size w w_t_0 := by rw [← hw_t_0]; exact (Below.refl _ _).alloc (Nat.le_refl _) _
  have HBw_t_0 := Lib.hid (Below.step HB.out bw_t_0)
  clear bw_t_0
  have kt_0_0 : w_t_0.cell? ⟨w.heap.size, 0, none⟩ = some (.int .i64 0) := by rw [← hw_t_0]; exact box_new _ _ _ 0 _ rfl
  have kt_0_1 : w_t_0.cell? ⟨w.heap.size, 1, none⟩ = some (.int .i64 0) := by rw [← hw_t_0]; exact box_new _ _ _ 1 _ rfl
  have kt_0_2 : w_t_0.cell? ⟨w.heap.size, 2, none⟩ = some (.int .i64 0) := by rw [← hw_t_0]; exact box_new _ _ _ 2 _ rfl
  have kt_0_3 : w_t_0.cell? ⟨w.heap.size, 3, none⟩ = some (.int .i64 0) := by rw [← hw_t_0]; exact box_new _ _ _ 3 _ rfl
  have kt_0_4 : w_t_0.cell? ⟨w.heap.size, 4, none⟩ = some (.int .i64 0) := by rw [← hw_t_0]; exact box_new _ _ _ 4 _ rfl
  have kt_0_5 : w_t_0.cell? ⟨w.heap.size, 5, none⟩ = some (.int .i64 0) := by rw [← hw_t_0]; exact box_new _ _ _ 5 _ rfl
  have kt_0_6 : w_t_0.cell? ⟨w.heap.size, 6, none⟩ = some (.int .i64 0) := by rw [← hw_t_0]; exact box_new _ _ _ 6 _ rfl
  have kt_0_7 : w_t_0.cell? ⟨w.heap.size, 7, none⟩ = some (.int .i64 0) := by rw [← hw_t_0]; exact box_new _ _ _ 7 _ rfl
  have kt_0_8 : w_t_0.cell? ⟨w.heap.size, 8, none⟩ = some (.int .i64 0) := by rw [← hw_t_0]; exact box_new _ _ _ 8 _ rfl
  have kt_0_9 : w_t_0.cell? ⟨w.heap.size, 9, none⟩ = some (.int .i64 0) := by rw [← hw_t_0]; exact box_new _ _ _ 9 _ rfl
  have Ot_0 : Hid (w_t_0.ownsRow w.heap.size 78 10 (.slice (some ⟨w.heap.size, 0, none⟩) 1 1) 1 [.int .i64 0, .int .i64 0, .int .i64 0, .int .i64 0, .int .i64 0, .int .i64 0, .int .i64 0, .int .i64 0, .int .i64 0, .int .i64 0]) := Lib.hid (by rw [← hw_t_0]; exact own_laid (n := 1) HB.out.size rfl rfl (by unfold maxLen; omega))
  replace H := bind_hid H
  obtain ⟨t_1, qt_1, H⟩ := H
  obtain ⟨t_1_x0, t_1_x1, t_1_x2, t_1_x3, t_1_x4, t_1_x5, t_1_x6, t_1_x7, t_1_x8, t_1_x9⟩ := t_1
  replace H := unIntA10_hid H
  go_wp2_with fail
  go_at_call 87
  refine (Go.Proofs.YtfjcibkgbalkaaaDoor.GiFilledWith.C (10000)  _    qt_1).mono ?_
  rintro e_t_1 wt_1 ⟨rfl, bt_1⟩
  unfold Go.Proofs.YtfjcibkgbalkaaaDoor.PIntA10.IntA10.val
  have HBwt_1 := Lib.hid (Below.step HBw_t_0.out bt_1)
  replace kt_0_0 := cell_below bt_1 kt_0_0
  replace kt_0_1 := cell_below bt_1 kt_0_1
  replace kt_0_2 := cell_below bt_1 kt_0_2
  replace kt_0_3 := cell_below bt_1 kt_0_3
  replace kt_0_4 := cell_below bt_1 kt_0_4
  replace kt_0_5 := cell_below bt_1 kt_0_5
  replace kt_0_6 := cell_below bt_1 kt_0_6
  replace kt_0_7 := cell_below bt_1 kt_0_7
  replace kt_0_8 := cell_below bt_1 kt_0_8
  replace kt_0_9 := cell_below bt_1 kt_0_9
  replace Ot_0 := Lib.hid (own_below Ot_0.out bt_1)
  clear bt_1
  replace H := let_hid H
  obtain ⟨vearliest_2, hvearliest_2, H⟩ := H
  obtain ⟨w_earliest_2, hw_earliest_2⟩ : ∃ x, wt_1.alloc (.cells #[.int .i64 t_1_x0, .int .i64 t_1_x1, .int .i64 t_1_x2, .int .i64 t_1_x3, .int .i64 t_1_x4, .int .i64 t_1_x5, .int .i64 t_1_x6, .int .i64 t_1_x7, .int .i64 t_1_x8, .int .i64 t_1_x9] 78) = x := ⟨_, rfl⟩
  have bw_earliest_2 : Below wt_1.heap.size wt_1 w_earliest_2 := by rw [← hw_earliest_2]; exact (Below.refl _ _).alloc (Nat.le_refl _) _
  have hs_earliest_2 := HBwt_1.out.size
  have nearliest_2 : vearliest_2.length = 10 := by rw [← hvearliest_2]; rfl
  have Oearliest_2 : Hid (w_earliest_2.ownsRow w.heap.size 78 1 (.slice (some ⟨wt_1.heap.size, 0, none⟩) 10 10) 10 (Go.Proofs.YtfjcibkgbalkaaaDoor.HelpInt.iv vearliest_2)) := by
    rw [← hw_earliest_2, ← hvearliest_2]
    have e_ : ([.int .i64 t_1_x0, .int .i64 t_1_x1, .int .i64 t_1_x2, .int .i64 t_1_x3, .int .i64 t_1_x4, .int .i64 t_1_x5, .int .i64 t_1_x6, .int .i64 t_1_x7, .int .i64 t_1_x8, .int .i64 t_1_x9] : List Value) = Go.Proofs.YtfjcibkgbalkaaaDoor.HelpInt.iv [t_1_x0, t_1_x1, t_1_x2, t_1_x3, t_1_x4, t_1_x5, t_1_x6, t_1_x7, t_1_x8, t_1_x9] := rfl
    exact Lib.hid (own_laid (n := 10) hs_earliest_2 e_ rfl (by unfold maxLen; omega))
  clear hs_earliest_2
  have hhearliest_2 := Lib.hid hvearliest_2
  clear hvearliest_2
  replace nearliest_2 := Lib.hid nearliest_2
  have Dearliest_2_t_0 := Lib.hid (apart_box kt_0_0)
  have HBw_earliest_2 := Lib.hid (Below.step HBwt_1.out bw_earliest_2)
  have kt_0_0__259 := cell_below bw_earliest_2 kt_0_0
  have kt_0_1__260 := cell_below bw_earliest_2 kt_0_1
  have kt_0_2__261 := cell_below bw_earliest_2 kt_0_2
  have kt_0_3__262 := cell_below bw_earliest_2 kt_0_3
  have kt_0_4__263 := cell_below bw_earliest_2 kt_0_4
  have kt_0_5__264 := cell_below bw_earliest_2 kt_0_5
  have kt_0_6__265 := cell_below bw_earliest_2 kt_0_6
  have kt_0_7__266 := cell_below bw_earliest_2 kt_0_7
  have kt_0_8__267 := cell_below bw_earliest_2 kt_0_8
  have kt_0_9__268 := cell_below bw_earliest_2 kt_0_9
  replace Ot_0 := Lib.hid (own_below Ot_0.out bw_earliest_2)
  clear bw_earliest_2
  replace H := idx_hid H
  obtain ⟨nt_6, yt_6, et_6, lt_6, gt_6, H⟩ := H
  subst et_6
  have hqt_6 := nearliest_2.out
  obtain ⟨ab_t_6, ao_t_6, zt_6, At_6, z_t_6, ct_6_0⟩ := Go.Proofs.YtfjcibkgbalkaaaDoor.HelpInt.Ints.at_ (own_cells Oearliest_2.out) (k := nt_6) (by omega)
  obtain rfl := Option.some.inj (gt_6.out.symm.trans z_t_6)
  simp only [Option.some.injEq, Addr.mk.injEq] at At_6
  obtain ⟨rfl, rfl, _⟩ := At_6
  clear z_t_6
  simp only [Nat.zero_add] at ct_6_0
  have b0t_6 : (0 : Int) ≤ (nt_6 : Int) := by omega
  have b1t_6 : (nt_6 : Int) < ((10 : Nat) : Int) := by omega
  have b2t_6 : ((nt_6 : Int)).toNat = nt_6 := by omega
  clear hqt_6
  have b3t_6 : nt_6 < 10 := by have h_ := lt_6; have hn_ := nearliest_2.out; omega
  have b4t_6 : (nt_6 : Int) < (10 : Int) := by omega
  replace H := let_hid H
  obtain ⟨l7_7, hl7_7, H⟩ := H
  try simp only [Int.toNat_natCast] at hl7_7
  obtain ⟨wl7_7, hwl7_7⟩ : ∃ x, (w_earliest_2).setCell ⟨wt_1.heap.size, nt_6, none⟩ (.int .i64 minute) = x := ⟨_, rfl⟩
  have z0l7_7 := Oearliest_2.out.frozenAt (nt_6)
  have Sl7_7 := Lib.hid (own_stores [(nt_6, .int .i64 minute)] Oearliest_2.out)
  have nl7_7 : Hid (l7_7.length = 10) := Lib.hid (by rw [← hl7_7, List.length_set]; exact nearliest_2.out)
  have Pl7_7 : Hid (wl7_7.ownsRow w.heap.size 78 1 (.slice (some ⟨wt_1.heap.size, 0, none⟩) 10 10) 10 (Go.Proofs.YtfjcibkgbalkaaaDoor.HelpInt.iv l7_7)) := Lib.hid (by have e_ : ([(nt_6, .int .i64 minute)] : List (Nat × Value)).foldl (fun xs p => xs.set p.1 p.2) (Go.Proofs.YtfjcibkgbalkaaaDoor.HelpInt.iv vearliest_2) = (Go.Proofs.YtfjcibkgbalkaaaDoor.HelpInt.iv l7_7) := (by rw [← hl7_7]; first | done | simp [Go.Proofs.YtfjcibkgbalkaaaDoor.HelpInt.iv, List.map_set]); rw [← hwl7_7, ← e_]; exact Sl7_7.out.1)
  have Gl7_7 : Hid (w_earliest_2.grownBy wl7_7 (Value.slice (some ⟨wt_1.heap.size, 0, none⟩) 10 10).ownBlock) := Lib.hid (by rw [← hwl7_7]; exact Sl7_7.out.2)
  have HBwl7_7 := Lib.hid (HBw_earliest_2.out.grown Gl7_7.out HBw_earliest_2.out.size (fun q hq => (Oearliest_2.out.lt q hq).1))
  have hhl7_7 := Lib.hid hl7_7
  clear hl7_7 Sl7_7
  have kt_0_0__269 := cell_other kt_0_0__259 Gl7_7.out Dearliest_2_t_0.out
  have kt_0_1__270 := cell_other kt_0_1__260 Gl7_7.out Dearliest_2_t_0.out
  have kt_0_2__271 := cell_other kt_0_2__261 Gl7_7.out Dearliest_2_t_0.out
  have kt_0_3__272 := cell_other kt_0_3__262 Gl7_7.out Dearliest_2_t_0.out
  have kt_0_4__273 := cell_other kt_0_4__263 Gl7_7.out Dearliest_2_t_0.out
  have kt_0_5__274 := cell_other kt_0_5__264 Gl7_7.out Dearliest_2_t_0.out
  have kt_0_6__275 := cell_other kt_0_6__265 Gl7_7.out Dearliest_2_t_0.out
  have kt_0_7__276 := cell_other kt_0_7__266 Gl7_7.out Dearliest_2_t_0.out
  have kt_0_8__277 := cell_other kt_0_8__267 Gl7_7.out Dearliest_2_t_0.out
  have kt_0_9__278 := cell_other kt_0_9__268 Gl7_7.out Dearliest_2_t_0.out
  replace Ot_0 := Lib.hid (own_other Ot_0.out Gl7_7.out Dearliest_2_t_0.out)
  clear Oearliest_2 Gl7_7
  go_wp2_with fail
  clear kt_0_0 kt_0_1 kt_0_2 kt_0_3 kt_0_4 kt_0_5 kt_0_6 kt_0_7 kt_0_8 kt_0_9 z0l7_7 kt_0_0__259 kt_0_1__260 kt_0_2__261 kt_0_3__262 kt_0_4__263 kt_0_5__264 kt_0_6__265 kt_0_7__266 kt_0_8__267 kt_0_9__268 ct_6_0
  go_wp2_with fail
  go_loopg [16] (list.length) (fun m_ v16_ wr => ∃ (k0 : Nat) (earliest_7l0 : (List Int)), k0 + m_ = list.length ∧ v16_ = .int .i64 (k0 : Int) ∧ Hid (cntK (l0 list) m_ k0 (earliest_7l0) (e0 ) = some r) ∧ Hid (Below w.heap.size w wr) ∧ wr.cell? ⟨w.heap.size, 0, none⟩ = some (.int .i64 0) ∧ wr.cell? ⟨w.heap.size, 1, none⟩ = some (.int .i64 0) ∧ wr.cell? ⟨w.heap.size, 2, none⟩ = some (.int .i64 0) ∧ wr.cell? ⟨w.heap.size, 3, none⟩ = some (.int .i64 0) ∧ wr.cell? ⟨w.heap.size, 4, none⟩ = some (.int .i64 0) ∧ wr.cell? ⟨w.heap.size, 5, none⟩ = some (.int .i64 0) ∧ wr.cell? ⟨w.heap.size, 6, none⟩ = some (.int .i64 0) ∧ wr.cell? ⟨w.heap.size, 7, none⟩ = some (.int .i64 0) ∧ wr.cell? ⟨w.heap.size, 8, none⟩ = some (.int .i64 0) ∧ wr.cell? ⟨w.heap.size, 9, none⟩ = some (.int .i64 0) ∧ Hid (wr.ownsRow w.heap.size 78 10 (.slice (some ⟨w.heap.size, 0, none⟩) 1 1) 1 [.int .i64 0, .int .i64 0, .int .i64 0, .int .i64 0, .int .i64 0, .int .i64 0, .int .i64 0, .int .i64 0, .int .i64 0, .int .i64 0]) ∧ Hid (wr.ownsRow w.heap.size 78 1 (.slice (some ⟨wt_1.heap.size, 0, none⟩) 10 10) 10 (Go.Proofs.YtfjcibkgbalkaaaDoor.HelpInt.iv earliest_7l0)) ∧ Hid (earliest_7l0.length = 10) ∧ Hid (Apart (some ⟨wt_1.heap.size, 0, none⟩) (some ⟨w.heap.size, 0, none⟩)))
  case atStart => exact ⟨0, _, by omega, rfl, H, HBwl7_7, kt_0_0__269, kt_0_1__270, kt_0_2__271, kt_0_3__272, kt_0_4__273, kt_0_5__274, kt_0_6__275, kt_0_7__276, kt_0_8__277, kt_0_9__278, Ot_0, Pl7_7, Lib.hid (nl7_7.out), Lib.hid Dearliest_2_t_0.out⟩
  case round =>
    obtain ⟨k0, earliest_7l0, hkm0, rfl, H, HBwr0, kt_0_0__269, kt_0_1__270, kt_0_2__271, kt_0_3__272, kt_0_4__273, kt_0_5__274, kt_0_6__275, kt_0_7__276, kt_0_8__277, kt_0_9__278, Ot_0, Oearliest_7l0, hnearliest_7l0, Dearliest_7l0_t_0⟩ := hrel
    rename World => wr0
    cases gk with
    | zero =>
      obtain rfl : k0 = list.length := by omega
      have hc0 : decide (((list.length : Nat) : Int) < ((list.length : Nat) : Int)) = false := by simp
      replace H := cnt_zero H
      unfold e0 at H
      replace H := let_hid H
      obtain ⟨_, rfl, H⟩ := H
      have ka_279 : wr0.cell? ⟨wt_1.heap.size, 0, none⟩ = some (.int .i64 (Go.Proofs.YtfjcibkgbalkaaaDoor.GoA.nth earliest_7l0 0)) := Go.Proofs.YtfjcibkgbalkaaaDoor.GoA.row_at Oearliest_7l0.out hnearliest_7l0.out 0 (by omega)
      have ka_280 : wr0.cell? ⟨wt_1.heap.size, 1, none⟩ = some (.int .i64 (Go.Proofs.YtfjcibkgbalkaaaDoor.GoA.nth earliest_7l0 1)) := Go.Proofs.YtfjcibkgbalkaaaDoor.GoA.row_at Oearliest_7l0.out hnearliest_7l0.out 1 (by omega)
      have ka_281 : wr0.cell? ⟨wt_1.heap.size, 2, none⟩ = some (.int .i64 (Go.Proofs.YtfjcibkgbalkaaaDoor.GoA.nth earliest_7l0 2)) := Go.Proofs.YtfjcibkgbalkaaaDoor.GoA.row_at Oearliest_7l0.out hnearliest_7l0.out 2 (by omega)
      have ka_282 : wr0.cell? ⟨wt_1.heap.size, 3, none⟩ = some (.int .i64 (Go.Proofs.YtfjcibkgbalkaaaDoor.GoA.nth earliest_7l0 3)) := Go.Proofs.YtfjcibkgbalkaaaDoor.GoA.row_at Oearliest_7l0.out hnearliest_7l0.out 3 (by omega)
      have ka_283 : wr0.cell? ⟨wt_1.heap.size, 4, none⟩ = some (.int .i64 (Go.Proofs.YtfjcibkgbalkaaaDoor.GoA.nth earliest_7l0 4)) := Go.Proofs.YtfjcibkgbalkaaaDoor.GoA.row_at Oearliest_7l0.out hnearliest_7l0.out 4 (by omega)
      have ka_284 : wr0.cell? ⟨wt_1.heap.size, 5, none⟩ = some (.int .i64 (Go.Proofs.YtfjcibkgbalkaaaDoor.GoA.nth earliest_7l0 5)) := Go.Proofs.YtfjcibkgbalkaaaDoor.GoA.row_at Oearliest_7l0.out hnearliest_7l0.out 5 (by omega)
      have ka_285 : wr0.cell? ⟨wt_1.heap.size, 6, none⟩ = some (.int .i64 (Go.Proofs.YtfjcibkgbalkaaaDoor.GoA.nth earliest_7l0 6)) := Go.Proofs.YtfjcibkgbalkaaaDoor.GoA.row_at Oearliest_7l0.out hnearliest_7l0.out 6 (by omega)
      have ka_286 : wr0.cell? ⟨wt_1.heap.size, 7, none⟩ = some (.int .i64 (Go.Proofs.YtfjcibkgbalkaaaDoor.GoA.nth earliest_7l0 7)) := Go.Proofs.YtfjcibkgbalkaaaDoor.GoA.row_at Oearliest_7l0.out hnearliest_7l0.out 7 (by omega)
      have ka_287 : wr0.cell? ⟨wt_1.heap.size, 8, none⟩ = some (.int .i64 (Go.Proofs.YtfjcibkgbalkaaaDoor.GoA.nth earliest_7l0 8)) := Go.Proofs.YtfjcibkgbalkaaaDoor.GoA.row_at Oearliest_7l0.out hnearliest_7l0.out 8 (by omega)
      have ka_288 : wr0.cell? ⟨wt_1.heap.size, 9, none⟩ = some (.int .i64 (Go.Proofs.YtfjcibkgbalkaaaDoor.GoA.nth earliest_7l0 9)) := Go.Proofs.YtfjcibkgbalkaaaDoor.GoA.row_at Oearliest_7l0.out hnearliest_7l0.out 9 (by omega)
      obtain ⟨wb37_37, hwb37_37⟩ : ∃ x, ((((((((((wr0).setCell ⟨w.heap.size, 0, none⟩ (.int .i64 (Go.Proofs.YtfjcibkgbalkaaaDoor.GoA.nth earliest_7l0 0))).setCell ⟨w.heap.size, 1, none⟩ (.int .i64 (Go.Proofs.YtfjcibkgbalkaaaDoor.GoA.nth earliest_7l0 1))).setCell ⟨w.heap.size, 2, none⟩ (.int .i64 (Go.Proofs.YtfjcibkgbalkaaaDoor.GoA.nth earliest_7l0 2))).setCell ⟨w.heap.size, 3, none⟩ (.int .i64 (Go.Proofs.YtfjcibkgbalkaaaDoor.GoA.nth earliest_7l0 3))).setCell ⟨w.heap.size, 4, none⟩ (.int .i64 (Go.Proofs.YtfjcibkgbalkaaaDoor.GoA.nth earliest_7l0 4))).setCell ⟨w.heap.size, 5, none⟩ (.int .i64 (Go.Proofs.YtfjcibkgbalkaaaDoor.GoA.nth earliest_7l0 5))).setCell ⟨w.heap.size, 6, none⟩ (.int .i64 (Go.Proofs.YtfjcibkgbalkaaaDoor.GoA.nth earliest_7l0 6))).setCell ⟨w.heap.size, 7, none⟩ (.int .i64 (Go.Proofs.YtfjcibkgbalkaaaDoor.GoA.nth earliest_7l0 7))).setCell ⟨w.heap.size, 8, none⟩ (.int .i64 (Go.Proofs.YtfjcibkgbalkaaaDoor.GoA.nth earliest_7l0 8))).setCell ⟨w.heap.size, 9, none⟩ (.int .i64 (Go.Proofs.YtfjcibkgbalkaaaDoor.GoA.nth earliest_7l0 9)) = x := ⟨_, rfl⟩
      have z0b37_37 := Ot_0.out.frozenAt 0
      have z1b37_37 := Ot_0.out.frozenAt 1
      have z2b37_37 := Ot_0.out.frozenAt 2
      have z3b37_37 := Ot_0.out.frozenAt 3
      have z4b37_37 := Ot_0.out.frozenAt 4
      have z5b37_37 := Ot_0.out.frozenAt 5
      have z6b37_37 := Ot_0.out.frozenAt 6
      have z7b37_37 := Ot_0.out.frozenAt 7
      have z8b37_37 := Ot_0.out.frozenAt 8
      have z9b37_37 := Ot_0.out.frozenAt 9
      have Sb37_37 := Lib.hid (own_stores [(0, .int .i64 (Go.Proofs.YtfjcibkgbalkaaaDoor.GoA.nth earliest_7l0 0)), (1, .int .i64 (Go.Proofs.YtfjcibkgbalkaaaDoor.GoA.nth earliest_7l0 1)), (2, .int .i64 (Go.Proofs.YtfjcibkgbalkaaaDoor.GoA.nth earliest_7l0 2)), (3, .int .i64 (Go.Proofs.YtfjcibkgbalkaaaDoor.GoA.nth earliest_7l0 3)), (4, .int .i64 (Go.Proofs.YtfjcibkgbalkaaaDoor.GoA.nth earliest_7l0 4)), (5, .int .i64 (Go.Proofs.YtfjcibkgbalkaaaDoor.GoA.nth earliest_7l0 5)), (6, .int .i64 (Go.Proofs.YtfjcibkgbalkaaaDoor.GoA.nth earliest_7l0 6)), (7, .int .i64 (Go.Proofs.YtfjcibkgbalkaaaDoor.GoA.nth earliest_7l0 7)), (8, .int .i64 (Go.Proofs.YtfjcibkgbalkaaaDoor.GoA.nth earliest_7l0 8)), (9, .int .i64 (Go.Proofs.YtfjcibkgbalkaaaDoor.GoA.nth earliest_7l0 9))] Ot_0.out)
      have Pb37_37 : Hid (wb37_37.ownsRow w.heap.size 78 10 (.slice (some ⟨w.heap.size, 0, none⟩) 1 1) 1 [.int .i64 (Go.Proofs.YtfjcibkgbalkaaaDoor.GoA.nth earliest_7l0 0), .int .i64 (Go.Proofs.YtfjcibkgbalkaaaDoor.GoA.nth earliest_7l0 1), .int .i64 (Go.Proofs.YtfjcibkgbalkaaaDoor.GoA.nth earliest_7l0 2), .int .i64 (Go.Proofs.YtfjcibkgbalkaaaDoor.GoA.nth earliest_7l0 3), .int .i64 (Go.Proofs.YtfjcibkgbalkaaaDoor.GoA.nth earliest_7l0 4), .int .i64 (Go.Proofs.YtfjcibkgbalkaaaDoor.GoA.nth earliest_7l0 5), .int .i64 (Go.Proofs.YtfjcibkgbalkaaaDoor.GoA.nth earliest_7l0 6), .int .i64 (Go.Proofs.YtfjcibkgbalkaaaDoor.GoA.nth earliest_7l0 7), .int .i64 (Go.Proofs.YtfjcibkgbalkaaaDoor.GoA.nth earliest_7l0 8), .int .i64 (Go.Proofs.YtfjcibkgbalkaaaDoor.GoA.nth earliest_7l0 9)]) := Lib.hid (by rw [← hwb37_37]; exact Sb37_37.out.1)
      have Gb37_37 : Hid (wr0.grownBy wb37_37 (Value.slice (some ⟨w.heap.size, 0, none⟩) 1 1).ownBlock) := Lib.hid (by rw [← hwb37_37]; exact Sb37_37.out.2)
      have HBwb37_37 := Lib.hid (HBwr0.out.grown Gb37_37.out HBwr0.out.size (fun q hq => (Ot_0.out.lt q hq).1))
      clear Sb37_37
      replace Oearliest_7l0 := Lib.hid (own_other Oearliest_7l0.out Gb37_37.out (Apart.symm Dearliest_7l0_t_0.out))
      clear Ot_0 Gb37_37
      have kt_0_0__289 : wb37_37.cell? ⟨w.heap.size, 0, none⟩ = some (.int .i64 (Go.Proofs.YtfjcibkgbalkaaaDoor.GoA.nth earliest_7l0 0)) := Pb37_37.out.cells rfl 0 _ rfl
      have kt_0_1__290 : wb37_37.cell? ⟨w.heap.size, 1, none⟩ = some (.int .i64 (Go.Proofs.YtfjcibkgbalkaaaDoor.GoA.nth earliest_7l0 1)) := Pb37_37.out.cells rfl 1 _ rfl
      have kt_0_2__291 : wb37_37.cell? ⟨w.heap.size, 2, none⟩ = some (.int .i64 (Go.Proofs.YtfjcibkgbalkaaaDoor.GoA.nth earliest_7l0 2)) := Pb37_37.out.cells rfl 2 _ rfl
      have kt_0_3__292 : wb37_37.cell? ⟨w.heap.size, 3, none⟩ = some (.int .i64 (Go.Proofs.YtfjcibkgbalkaaaDoor.GoA.nth earliest_7l0 3)) := Pb37_37.out.cells rfl 3 _ rfl
      have kt_0_4__293 : wb37_37.cell? ⟨w.heap.size, 4, none⟩ = some (.int .i64 (Go.Proofs.YtfjcibkgbalkaaaDoor.GoA.nth earliest_7l0 4)) := Pb37_37.out.cells rfl 4 _ rfl
      have kt_0_5__294 : wb37_37.cell? ⟨w.heap.size, 5, none⟩ = some (.int .i64 (Go.Proofs.YtfjcibkgbalkaaaDoor.GoA.nth earliest_7l0 5)) := Pb37_37.out.cells rfl 5 _ rfl
      have kt_0_6__295 : wb37_37.cell? ⟨w.heap.size, 6, none⟩ = some (.int .i64 (Go.Proofs.YtfjcibkgbalkaaaDoor.GoA.nth earliest_7l0 6)) := Pb37_37.out.cells rfl 6 _ rfl
      have kt_0_7__296 : wb37_37.cell? ⟨w.heap.size, 7, none⟩ = some (.int .i64 (Go.Proofs.YtfjcibkgbalkaaaDoor.GoA.nth earliest_7l0 7)) := Pb37_37.out.cells rfl 7 _ rfl
      have kt_0_8__297 : wb37_37.cell? ⟨w.heap.size, 8, none⟩ = some (.int .i64 (Go.Proofs.YtfjcibkgbalkaaaDoor.GoA.nth earliest_7l0 8)) := Pb37_37.out.cells rfl 8 _ rfl
      have kt_0_9__298 : wb37_37.cell? ⟨w.heap.size, 9, none⟩ = some (.int .i64 (Go.Proofs.YtfjcibkgbalkaaaDoor.GoA.nth earliest_7l0 9)) := Pb37_37.out.cells rfl 9 _ rfl
      cases ret_hid H
      go_wp2_with fail
      (try simp only [Exit.inBlock, Exit.then])
      refine bodyPost_ret (v := .agg #[.int .i64 (Go.Proofs.YtfjcibkgbalkaaaDoor.GoA.nth earliest_7l0 0), .int .i64 (Go.Proofs.YtfjcibkgbalkaaaDoor.GoA.nth earliest_7l0 1), .int .i64 (Go.Proofs.YtfjcibkgbalkaaaDoor.GoA.nth earliest_7l0 2), .int .i64 (Go.Proofs.YtfjcibkgbalkaaaDoor.GoA.nth earliest_7l0 3), .int .i64 (Go.Proofs.YtfjcibkgbalkaaaDoor.GoA.nth earliest_7l0 4), .int .i64 (Go.Proofs.YtfjcibkgbalkaaaDoor.GoA.nth earliest_7l0 5), .int .i64 (Go.Proofs.YtfjcibkgbalkaaaDoor.GoA.nth earliest_7l0 6), .int .i64 (Go.Proofs.YtfjcibkgbalkaaaDoor.GoA.nth earliest_7l0 7), .int .i64 (Go.Proofs.YtfjcibkgbalkaaaDoor.GoA.nth earliest_7l0 8), .int .i64 (Go.Proofs.YtfjcibkgbalkaaaDoor.GoA.nth earliest_7l0 9)]) ?hr_ ?hd_ ?_
      case hd_ => rfl
      case hr_ => simp [results, Tryd.results70, kt_0_0__289, kt_0_1__290, kt_0_2__291, kt_0_3__292, kt_0_4__293, kt_0_5__294, kt_0_6__295, kt_0_7__296, kt_0_8__297, kt_0_9__298, go_sem]
      exact ⟨rfl, HBwb37_37.out⟩
    | succ m0 =>
      have hlt0 : k0 < list.length := by omega
      have hc0 : decide ((k0 : Int) < ((list.length : Nat) : Int)) = true := by simp; omega
      replace H := cnt_succ H
      unfold l0 at H
      replace H := let_hid H
      obtain ⟨_, rfl, H⟩ := H
      replace H := idx_hid H
      obtain ⟨nt_12, yt_12, et_12, lt_12, gt_12, H⟩ := H
      obtain rfl : k0 = nt_12 := by omega
      clear et_12
      obtain ⟨t_12_leave, t_12_from_, t_12_to_, t_12_arrive⟩ := yt_12
      replace H := unMail_hid H
      obtain ⟨ab_t_12, ao_t_12, zt_12, At_12, z_t_12, ct_12_0, ct_12_1, ct_12_2, ct_12_3⟩ := Go.Proofs.YtfjcibkgbalkaaaDoor.OMail.at_ M0.out lt_12
      obtain rfl := Option.some.inj (gt_12.out.symm.trans z_t_12)
      subst At_12
      have ltt_12 := cell_lt ct_12_0
      replace ct_12_0 := cell_below HBwr0.out ct_12_0
      replace ct_12_1 := cell_below HBwr0.out ct_12_1
      replace ct_12_2 := cell_below HBwr0.out ct_12_2
      replace ct_12_3 := cell_below HBwr0.out ct_12_3
      clear z_t_12
      have b0t_12 : (0 : Int) ≤ (k0 : Int) := by omega
      have b1t_12 : (k0 : Int) < ((list.length : Nat) : Int) := by omega
      have b2t_12 : ((k0 : Int)).toNat = k0 := by omega
      obtain ⟨w_x_14, hw_x_14⟩ : ∃ x, wr0.alloc (.cells #[.int .i64 t_12_leave, .int .i64 t_12_from_, .int .i64 t_12_to_, .int .i64 t_12_arrive] 54) = x := ⟨_, rfl⟩
      have bw_x_14 : Below wr0.heap.size wr0 w_x_14 := by rw [← hw_x_14]; exact (Below.refl _ _).alloc (Nat.le_refl _) _
      have Dx_14_earliest_7l0 := Lib.hid (apart_fresh Oearliest_7l0.out)
      have Dx_14_t_0 := Lib.hid (apart_box kt_0_0__269)
      have HBw_x_14 := Lib.hid (Below.step HBwr0.out bw_x_14)
      have kt_0_0__299 := cell_below bw_x_14 kt_0_0__269
      have kt_0_1__300 := cell_below bw_x_14 kt_0_1__270
      have kt_0_2__301 := cell_below bw_x_14 kt_0_2__271
      have kt_0_3__302 := cell_below bw_x_14 kt_0_3__272
      have kt_0_4__303 := cell_below bw_x_14 kt_0_4__273
      have kt_0_5__304 := cell_below bw_x_14 kt_0_5__274
      have kt_0_6__305 := cell_below bw_x_14 kt_0_6__275
      have kt_0_7__306 := cell_below bw_x_14 kt_0_7__276
      have kt_0_8__307 := cell_below bw_x_14 kt_0_8__277
      have kt_0_9__308 := cell_below bw_x_14 kt_0_9__278
      have ct_12_0__309 := cell_below bw_x_14 ct_12_0
      have ct_12_1__310 := cell_below bw_x_14 ct_12_1
      have ct_12_2__311 := cell_below bw_x_14 ct_12_2
      have ct_12_3__312 := cell_below bw_x_14 ct_12_3
      replace Oearliest_7l0 := Lib.hid (own_below Oearliest_7l0.out bw_x_14)
      replace Ot_0 := Lib.hid (own_below Ot_0.out bw_x_14)
      clear bw_x_14
      have kx_14_0 : w_x_14.cell? ⟨wr0.heap.size, 0, none⟩ = some (.int .i64 t_12_leave) := by rw [← hw_x_14]; exact box_new _ _ _ 0 _ rfl
      have kx_14_1 : w_x_14.cell? ⟨wr0.heap.size, 1, none⟩ = some (.int .i64 t_12_from_) := by rw [← hw_x_14]; exact box_new _ _ _ 1 _ rfl
      have kx_14_2 : w_x_14.cell? ⟨wr0.heap.size, 2, none⟩ = some (.int .i64 t_12_to_) := by rw [← hw_x_14]; exact box_new _ _ _ 2 _ rfl
      have kx_14_3 : w_x_14.cell? ⟨wr0.heap.size, 3, none⟩ = some (.int .i64 t_12_arrive) := by rw [← hw_x_14]; exact box_new _ _ _ 3 _ rfl
      go_wp2_with fail
      clear kt_0_0__269 kt_0_1__270 kt_0_2__271 kt_0_3__272 kt_0_4__273 kt_0_5__274 kt_0_6__275 kt_0_7__276 kt_0_8__277 kt_0_9__278 ct_12_0 ct_12_1 ct_12_2 ct_12_3
      have Hkt_0_0__299 := Lib.hid kt_0_0__299
      replace kt_0_0__299 := cell_regrown kt_0_0__299
      have Hkt_0_1__300 := Lib.hid kt_0_1__300
      replace kt_0_1__300 := cell_regrown kt_0_1__300
      have Hkt_0_2__301 := Lib.hid kt_0_2__301
      replace kt_0_2__301 := cell_regrown kt_0_2__301
      have Hkt_0_3__302 := Lib.hid kt_0_3__302
      replace kt_0_3__302 := cell_regrown kt_0_3__302
      have Hkt_0_4__303 := Lib.hid kt_0_4__303
      replace kt_0_4__303 := cell_regrown kt_0_4__303
      have Hkt_0_5__304 := Lib.hid kt_0_5__304
      replace kt_0_5__304 := cell_regrown kt_0_5__304
      have Hkt_0_6__305 := Lib.hid kt_0_6__305
      replace kt_0_6__305 := cell_regrown kt_0_6__305
      have Hkt_0_7__306 := Lib.hid kt_0_7__306
      replace kt_0_7__306 := cell_regrown kt_0_7__306
      have Hkt_0_8__307 := Lib.hid kt_0_8__307
      replace kt_0_8__307 := cell_regrown kt_0_8__307
      have Hkt_0_9__308 := Lib.hid kt_0_9__308
      replace kt_0_9__308 := cell_regrown kt_0_9__308
      have Hct_12_0__309 := Lib.hid ct_12_0__309
      replace ct_12_0__309 := cell_regrown ct_12_0__309
      have Hct_12_1__310 := Lib.hid ct_12_1__310
      replace ct_12_1__310 := cell_regrown ct_12_1__310
      have Hct_12_2__311 := Lib.hid ct_12_2__311
      replace ct_12_2__311 := cell_regrown ct_12_2__311
      have Hct_12_3__312 := Lib.hid ct_12_3__312
      replace ct_12_3__312 := cell_regrown ct_12_3__312
      have Hkx_14_0 := Lib.hid kx_14_0
      replace kx_14_0 := cell_regrown kx_14_0
      have Hkx_14_1 := Lib.hid kx_14_1
      replace kx_14_1 := cell_regrown kx_14_1
      have Hkx_14_2 := Lib.hid kx_14_2
      replace kx_14_2 := cell_regrown kx_14_2
      have Hkx_14_3 := Lib.hid kx_14_3
      replace kx_14_3 := cell_regrown kx_14_3
      replace H := idx_hid H
      obtain ⟨nt_18, yt_18, et_18, lt_18, gt_18, H⟩ := H
      subst et_18
      have hqt_18 := hnearliest_7l0.out
      obtain ⟨ab_t_18, ao_t_18, zt_18, At_18, z_t_18, ct_18_0⟩ := Go.Proofs.YtfjcibkgbalkaaaDoor.HelpInt.Ints.at_ (own_cells Oearliest_7l0.out) (k := nt_18) (by omega)
      obtain rfl := Option.some.inj (gt_18.out.symm.trans z_t_18)
      simp only [Option.some.injEq, Addr.mk.injEq] at At_18
      obtain ⟨rfl, rfl, _⟩ := At_18
      clear z_t_18
      simp only [Nat.zero_add] at ct_18_0
      have b0t_18 : (0 : Int) ≤ (nt_18 : Int) := by omega
      have b1t_18 : (nt_18 : Int) < ((10 : Nat) : Int) := by omega
      have b2t_18 : ((nt_18 : Int)).toNat = nt_18 := by omega
      clear hqt_18
      have Hct_18_0 := Lib.hid ct_18_0
      replace ct_18_0 := cell_regrown ct_18_0
      have b3t_18 : nt_18 < 10 := by have h_ := lt_18; have hn_ := hnearliest_7l0.out; omega
      have b4t_18 : (nt_18 : Int) < (10 : Int) := by omega
      replace H := let_hid H
      obtain ⟨t_22, ht_22, H⟩ := H
      refine wp_region_quiet_below (by kernel_rfl) (by kernel_rfl) ?_
      repeat (go_big_quiet_step (fail))
      refine wpQuiet_nil ?_
      intro Y6 hY6
      replace hY6 := below_class hY6
      replace kt_0_0__299 := Hkt_0_0__299.out
      clear Hkt_0_0__299
      replace kt_0_1__300 := Hkt_0_1__300.out
      clear Hkt_0_1__300
      replace kt_0_2__301 := Hkt_0_2__301.out
      clear Hkt_0_2__301
      replace kt_0_3__302 := Hkt_0_3__302.out
      clear Hkt_0_3__302
      replace kt_0_4__303 := Hkt_0_4__303.out
      clear Hkt_0_4__303
      replace kt_0_5__304 := Hkt_0_5__304.out
      clear Hkt_0_5__304
      replace kt_0_6__305 := Hkt_0_6__305.out
      clear Hkt_0_6__305
      replace kt_0_7__306 := Hkt_0_7__306.out
      clear Hkt_0_7__306
      replace kt_0_8__307 := Hkt_0_8__307.out
      clear Hkt_0_8__307
      replace kt_0_9__308 := Hkt_0_9__308.out
      clear Hkt_0_9__308
      replace ct_12_0__309 := Hct_12_0__309.out
      clear Hct_12_0__309
      replace ct_12_1__310 := Hct_12_1__310.out
      clear Hct_12_1__310
      replace ct_12_2__311 := Hct_12_2__311.out
      clear Hct_12_2__311
      replace ct_12_3__312 := Hct_12_3__312.out
      clear Hct_12_3__312
      replace kx_14_0 := Hkx_14_0.out
      clear Hkx_14_0
      replace kx_14_1 := Hkx_14_1.out
      clear Hkx_14_1
      replace kx_14_2 := Hkx_14_2.out
      clear Hkx_14_2
      replace kx_14_3 := Hkx_14_3.out
      clear Hkx_14_3
      replace ct_18_0 := Hct_18_0.out
      clear Hct_18_0
      have HBY6 := Lib.hid (Below.step HBw_x_14.out hY6)
      replace kt_0_0__299 := cell_below hY6 kt_0_0__299
      replace kt_0_1__300 := cell_below hY6 kt_0_1__300
      replace kt_0_2__301 := cell_below hY6 kt_0_2__301
      replace kt_0_3__302 := cell_below hY6 kt_0_3__302
      replace kt_0_4__303 := cell_below hY6 kt_0_4__303
      replace kt_0_5__304 := cell_below hY6 kt_0_5__304
      replace kt_0_6__305 := cell_below hY6 kt_0_6__305
      replace kt_0_7__306 := cell_below hY6 kt_0_7__306
      replace kt_0_8__307 := cell_below hY6 kt_0_8__307
      replace kt_0_9__308 := cell_below hY6 kt_0_9__308
      replace ct_12_0__309 := cell_below hY6 ct_12_0__309
      replace ct_12_1__310 := cell_below hY6 ct_12_1__310
      replace ct_12_2__311 := cell_below hY6 ct_12_2__311
      replace ct_12_3__312 := cell_below hY6 ct_12_3__312
      replace kx_14_0 := cell_below hY6 kx_14_0
      replace kx_14_1 := cell_below hY6 kx_14_1
      replace kx_14_2 := cell_below hY6 kx_14_2
      replace kx_14_3 := cell_below hY6 kx_14_3
      replace ct_18_0 := cell_below hY6 ct_18_0
      replace Oearliest_7l0 := Lib.hid (own_below Oearliest_7l0.out hY6)
      replace Ot_0 := Lib.hid (own_below Ot_0.out hY6)
      clear hY6
      cases t_22 with
      | false =>
        replace H := ite_f H
        replace H := app_hid H
        go_wp2_with fail
        go_roundg m0
        case measure => omega
        case rel => exact ⟨k0 + 1, _, by omega, by go_num, H, HBY6, kt_0_0__299, kt_0_1__300, kt_0_2__301, kt_0_3__302, kt_0_4__303, kt_0_5__304, kt_0_6__305, kt_0_7__306, kt_0_8__307, kt_0_9__308, Ot_0, Oearliest_7l0, Lib.hid (hnearliest_7l0.out), Lib.hid Dearliest_7l0_t_0.out⟩
      | true =>
        replace H := ite_t H
        go_wp2_with fail
        obtain ⟨Z7, hZ7⟩ : ∃ x, Y6.drew = x := ⟨_, rfl⟩
        have bd7 : Below Y6.heap.size Y6 Z7 := by rw [← hZ7]; exact (Below.refl _ _).drew
        have HBZ7 := Lib.hid (Below.step HBY6.out bd7)
        replace kt_0_0__299 := cell_below bd7 kt_0_0__299
        replace kt_0_1__300 := cell_below bd7 kt_0_1__300
        replace kt_0_2__301 := cell_below bd7 kt_0_2__301
        replace kt_0_3__302 := cell_below bd7 kt_0_3__302
        replace kt_0_4__303 := cell_below bd7 kt_0_4__303
        replace kt_0_5__304 := cell_below bd7 kt_0_5__304
        replace kt_0_6__305 := cell_below bd7 kt_0_6__305
        replace kt_0_7__306 := cell_below bd7 kt_0_7__306
        replace kt_0_8__307 := cell_below bd7 kt_0_8__307
        replace kt_0_9__308 := cell_below bd7 kt_0_9__308
        replace ct_12_0__309 := cell_below bd7 ct_12_0__309
        replace ct_12_1__310 := cell_below bd7 ct_12_1__310
        replace ct_12_2__311 := cell_below bd7 ct_12_2__311
        replace ct_12_3__312 := cell_below bd7 ct_12_3__312
        replace kx_14_0 := cell_below bd7 kx_14_0
        replace kx_14_1 := cell_below bd7 kx_14_1
        replace kx_14_2 := cell_below bd7 kx_14_2
        replace kx_14_3 := cell_below bd7 kx_14_3
        replace ct_18_0 := cell_below bd7 ct_18_0
        replace Oearliest_7l0 := Lib.hid (own_below Oearliest_7l0.out bd7)
        replace Ot_0 := Lib.hid (own_below Ot_0.out bd7)
        clear bd7
        replace H := idx_hid H
        obtain ⟨nt_27, yt_27, et_27, lt_27, gt_27, H⟩ := H
        subst et_27
        have hqt_27 := hnearliest_7l0.out
        obtain ⟨ab_t_27, ao_t_27, zt_27, At_27, z_t_27, ct_27_0⟩ := Go.Proofs.YtfjcibkgbalkaaaDoor.HelpInt.Ints.at_ (own_cells Oearliest_7l0.out) (k := nt_27) (by omega)
        obtain rfl := Option.some.inj (gt_27.out.symm.trans z_t_27)
        simp only [Option.some.injEq, Addr.mk.injEq] at At_27
        obtain ⟨rfl, rfl, _⟩ := At_27
        clear z_t_27
        simp only [Nat.zero_add] at ct_27_0
        have b0t_27 : (0 : Int) ≤ (nt_27 : Int) := by omega
        have b1t_27 : (nt_27 : Int) < ((10 : Nat) : Int) := by omega
        have b2t_27 : ((nt_27 : Int)).toNat = nt_27 := by omega
        clear hqt_27
        have b3t_27 : nt_27 < 10 := by have h_ := lt_27; have hn_ := hnearliest_7l0.out; omega
        have b4t_27 : (nt_27 : Int) < (10 : Int) := by omega
        replace H := let_hid H
        obtain ⟨t_31, ht_31, H⟩ := H
        replace H := idx_hid H
        obtain ⟨nt_32, yt_32, et_32, lt_32, gt_32, H⟩ := H
        obtain rfl : nt_27 = nt_32 := by omega
        clear et_32
        obtain rfl := Option.some.inj (gt_27.out.symm.trans gt_32.out)
        clear gt_32 lt_32
        have b3t_32 : nt_27 < 10 := by have h_ := lt_27; have hn_ := hnearliest_7l0.out; omega
        have b4t_32 : (nt_27 : Int) < (10 : Int) := by omega
        refine wp_region_still_tail 10 (by kernel_rfl) (by kernel_rfl) ?_
        simp only [List.take_succ_cons, List.take_zero, List.drop_succ_cons, List.drop_zero]
        change wpStill _ _ Y6.drew _ _ _
        rw [hZ7]
        repeat still_step
        refine wpStill_nil ?_
        change wpList _ _ _ _ _ Y6.drew
        rw [hZ7]
        clear hZ7
        replace H := let_hid H
        obtain ⟨l33_33, hl33_33, H⟩ := H
        try simp only [Int.toNat_natCast] at hl33_33
        obtain ⟨wl33_33, hwl33_33⟩ : ∃ x, (Z7).setCell ⟨wt_1.heap.size, nt_27, none⟩ (.int .i64 t_31) = x := ⟨_, rfl⟩
        have z0l33_33 := Oearliest_7l0.out.frozenAt (nt_27)
        have Sl33_33 := Lib.hid (own_stores [(nt_27, .int .i64 t_31)] Oearliest_7l0.out)
        have nl33_33 : Hid (l33_33.length = 10) := Lib.hid (by rw [← hl33_33, List.length_set]; exact hnearliest_7l0.out)
        have Pl33_33 : Hid (wl33_33.ownsRow w.heap.size 78 1 (.slice (some ⟨wt_1.heap.size, 0, none⟩) 10 10) 10 (Go.Proofs.YtfjcibkgbalkaaaDoor.HelpInt.iv l33_33)) := Lib.hid (by have e_ : ([(nt_27, .int .i64 t_31)] : List (Nat × Value)).foldl (fun xs p => xs.set p.1 p.2) (Go.Proofs.YtfjcibkgbalkaaaDoor.HelpInt.iv earliest_7l0) = (Go.Proofs.YtfjcibkgbalkaaaDoor.HelpInt.iv l33_33) := (by rw [← hl33_33]; first | done | simp [Go.Proofs.YtfjcibkgbalkaaaDoor.HelpInt.iv, List.map_set]); rw [← hwl33_33, ← e_]; exact Sl33_33.out.1)
        have Gl33_33 : Hid (Z7.grownBy wl33_33 (Value.slice (some ⟨wt_1.heap.size, 0, none⟩) 10 10).ownBlock) := Lib.hid (by rw [← hwl33_33]; exact Sl33_33.out.2)
        have HBwl33_33 := Lib.hid (HBZ7.out.grown Gl33_33.out HBZ7.out.size (fun q hq => (Oearliest_7l0.out.lt q hq).1))
        have hhl33_33 := Lib.hid hl33_33
        clear hl33_33 Sl33_33
        have kt_0_0__313 := cell_other kt_0_0__299 Gl33_33.out Dearliest_7l0_t_0.out
        have kt_0_1__314 := cell_other kt_0_1__300 Gl33_33.out Dearliest_7l0_t_0.out
        have kt_0_2__315 := cell_other kt_0_2__301 Gl33_33.out Dearliest_7l0_t_0.out
        have kt_0_3__316 := cell_other kt_0_3__302 Gl33_33.out Dearliest_7l0_t_0.out
        have kt_0_4__317 := cell_other kt_0_4__303 Gl33_33.out Dearliest_7l0_t_0.out
        have kt_0_5__318 := cell_other kt_0_5__304 Gl33_33.out Dearliest_7l0_t_0.out
        have kt_0_6__319 := cell_other kt_0_6__305 Gl33_33.out Dearliest_7l0_t_0.out
        have kt_0_7__320 := cell_other kt_0_7__306 Gl33_33.out Dearliest_7l0_t_0.out
        have kt_0_8__321 := cell_other kt_0_8__307 Gl33_33.out Dearliest_7l0_t_0.out
        have kt_0_9__322 := cell_other kt_0_9__308 Gl33_33.out Dearliest_7l0_t_0.out
        have ct_12_0__323 := cell_other ct_12_0__309 Gl33_33.out (apart_old Oearliest_7l0.out ltt_12)
        have ct_12_1__324 := cell_other ct_12_1__310 Gl33_33.out (apart_old Oearliest_7l0.out ltt_12)
        have ct_12_2__325 := cell_other ct_12_2__311 Gl33_33.out (apart_old Oearliest_7l0.out ltt_12)
        have ct_12_3__326 := cell_other ct_12_3__312 Gl33_33.out (apart_old Oearliest_7l0.out ltt_12)
        have kx_14_0__327 := cell_other kx_14_0 Gl33_33.out (Apart.symm Dx_14_earliest_7l0.out)
        have kx_14_1__328 := cell_other kx_14_1 Gl33_33.out (Apart.symm Dx_14_earliest_7l0.out)
        have kx_14_2__329 := cell_other kx_14_2 Gl33_33.out (Apart.symm Dx_14_earliest_7l0.out)
        have kx_14_3__330 := cell_other kx_14_3 Gl33_33.out (Apart.symm Dx_14_earliest_7l0.out)
        replace Ot_0 := Lib.hid (own_other Ot_0.out Gl33_33.out Dearliest_7l0_t_0.out)
        clear Oearliest_7l0 Gl33_33
        replace H := app_hid H
        go_wp2_with fail
        clear z0l33_33 kt_0_0__299 kt_0_1__300 kt_0_2__301 kt_0_3__302 kt_0_4__303 kt_0_5__304 kt_0_6__305 kt_0_7__306 kt_0_8__307 kt_0_9__308 ct_12_0__309 ct_12_1__310 ct_12_2__311 ct_12_3__312 kx_14_0 kx_14_1 kx_14_2 kx_14_3 ct_18_0 ct_27_0
        go_roundg m0
        case measure => omega
        case rel => exact ⟨k0 + 1, _, by omega, by go_num, H, HBwl33_33, kt_0_0__313, kt_0_1__314, kt_0_2__315, kt_0_3__316, kt_0_4__317, kt_0_5__318, kt_0_6__319, kt_0_7__320, kt_0_8__321, kt_0_9__322, Ot_0, Pl33_33, Lib.hid (nl33_33.out), Lib.hid Dearliest_7l0_t_0.out⟩
end Go.Proofs.YtfjcibkgbalkaaaDoor.GiEarliestMinutes

/- loop.example/g01062/impl.EarliestAt as a plain function, and the contract of the program's: where the plain one has an answer, the program has it. Conditions: slices read as lists. -/
namespace Go.Proofs.YtfjcibkgbalkaaaDoor.GiEarliestAt
set_option linter.unusedVariables false
set_option linter.unusedSimpArgs false
open Go.RowKit
open Go.Proofs.YtfjcibkgbalkaaaDoor.Rowed Go.Proofs.YtfjcibkgbalkaaaDoor.Turn Go.Proofs.YtfjcibkgbalkaaaDoor.Aid Go.Proofs.YtfjcibkgbalkaaaDoor.GoP Go.Proofs.YtfjcibkgbalkaaaDoor.GoM

def P (list : (List Go.Proofs.YtfjcibkgbalkaaaDoor.PMail.Mail)) (from_1 : Int) (minute : Int) (to_3 : Int) : Option (Int × Bool) :=
  Option.bind (Go.Proofs.YtfjcibkgbalkaaaDoor.GiCanBegin.P list from_1 minute) fun (t_5 : Bool) =>
  letK (!t_5) fun (t_6 : Bool) =>
  joinK (fun (t_11 : Bool) =>
  iteK t_11
  (some (0, false))
  (Option.bind (Go.Proofs.YtfjcibkgbalkaaaDoor.GiEarliestMinutes.P list from_1 minute) fun (t_17 : Go.Proofs.YtfjcibkgbalkaaaDoor.PIntA10.IntA10) =>
  unIntA10 t_17 fun (t_17_x0 : Int) (t_17_x1 : Int) (t_17_x2 : Int) (t_17_x3 : Int) (t_17_x4 : Int) (t_17_x5 : Int) (t_17_x6 : Int) (t_17_x7 : Int) (t_17_x8 : Int) (t_17_x9 : Int) =>
  Option.bind (idx [t_17_x0, t_17_x1, t_17_x2, t_17_x3, t_17_x4, t_17_x5, t_17_x6, t_17_x7, t_17_x8, t_17_x9] to_3) fun (yt_19 : Int) =>
  letK (yt_19 == 10000) fun (t_22 : Bool) =>
  iteK t_22
  (some (0, false))
  (some (yt_19, true)))) fun jt_11 => iteK t_6 (appK jt_11 true) (Option.bind (Go.Proofs.YtfjcibkgbalkaaaDoor.GiIsPostOffice.P to_3) fun (t_9 : Bool) =>
  letK (!t_9) fun (t_10 : Bool) =>
  appK jt_11 t_10)

set_option maxRecDepth 100000 in
set_option maxHeartbeats 2000000 in
theorem C (list : (List Go.Proofs.YtfjcibkgbalkaaaDoor.PMail.Mail)) (from_1 : Int) (minute : Int) (to_3 : Int) (A0 : Option Addr) (c0 : Nat)  (w : World) (M0 : Hid (Cells w 4 A0 list.length (Go.Proofs.YtfjcibkgbalkaaaDoor.PMail.flat list))) (N0 : Hid (list.length ≤ 9223372036854775807))  {r0 : Int} {r1 : Bool} (H : Hid (P list from_1 minute to_3 = some (r0, r1))) :
    Calls Tryd.prog 27 #[.slice A0 list.length c0, .int .i64 from_1, .int .i64 minute, .int .i64 to_3] w (Gives (.tuple #[.int .i64 r0, .bool r1]) w) := by
  have HB := Lib.hid (Below.refl w.heap.size w)
  unfold P at H
  have N0o := N0.out
  go_enter Tryd.func27, Tryd.ntmps27
  replace H := bind_hid H
  obtain ⟨t_5, qt_5, H⟩ := H
  go_wp2_with fail
  go_at_call 69
  refine (Go.Proofs.YtfjcibkgbalkaaaDoor.GiCanBegin.C (list) (from_1) (minute) A0 c0 _   (Lib.hid (Cells.below M0.out HB.out)) N0 qt_5).mono ?_
  rintro e_t_5 wt_5 ⟨rfl, bt_5⟩
  have HBwt_5 := Lib.hid (Below.step HB.out bt_5)
  clear bt_5
  cases t_5 with
  | false =>
    replace H := let_hid H
    obtain ⟨t_6, ht_6, H⟩ := H
    obtain rfl : t_6 = true := ht_6.symm
    replace H := join_hid H
    replace H := ite_t H
    replace H := app_hid H
    replace H := ite_t H
    cases ret_hid H
    go_wp2_with fail
    go_ret2
    exact ⟨rfl, HBwt_5.out⟩
  | true =>
    replace H := let_hid H
    obtain ⟨t_6, ht_6, H⟩ := H
    obtain rfl : t_6 = false := ht_6.symm
    replace H := join_hid H
    replace H := ite_f H
    replace H := bind_hid H
    obtain ⟨t_9, qt_9, H⟩ := H
    go_wp2_with fail
    go_at_call 63
    refine (Go.Proofs.YtfjcibkgbalkaaaDoor.GiIsPostOffice.C (to_3)  _    qt_9).mono ?_
    rintro e_t_9 wt_9 ⟨rfl, bt_9⟩
    have HBwt_9 := Lib.hid (Below.step HBwt_5.out bt_9)
    clear bt_9
    cases t_9 with
    | false =>
      replace H := let_hid H
      obtain ⟨t_10, ht_10, H⟩ := H
      obtain rfl : t_10 = true := ht_10.symm
      replace H := app_hid H
      replace H := ite_t H
      cases ret_hid H
      go_wp2_with fail
      go_ret2
      exact ⟨rfl, HBwt_9.out⟩
    | true =>
      replace H := let_hid H
      obtain ⟨t_10, ht_10, H⟩ := H
      obtain rfl : t_10 = false := ht_10.symm
      replace H := app_hid H
      replace H := ite_f H
      replace H := bind_hid H
      obtain ⟨t_17, qt_17, H⟩ := H
      obtain ⟨t_17_x0, t_17_x1, t_17_x2, t_17_x3, t_17_x4, t_17_x5, t_17_x6, t_17_x7, t_17_x8, t_17_x9⟩ := t_17
      replace H := unIntA10_hid H
      go_wp2_with fail
      go_at_call 70
      refine (Go.Proofs.YtfjcibkgbalkaaaDoor.GiEarliestMinutes.C (list) (from_1) (minute) A0 c0 _   (Lib.hid (Cells.below M0.out HBwt_9.out)) N0 qt_17).mono ?_
      rintro e_t_17 wt_17 ⟨rfl, bt_17⟩
      unfold Go.Proofs.YtfjcibkgbalkaaaDoor.PIntA10.IntA10.val
      have HBwt_17 := Lib.hid (Below.step HBwt_9.out bt_17)
      clear bt_17
      replace H := idx_hid H
      obtain ⟨nt_19, yt_19, et_19, lt_19, gt_19, H⟩ := H
      subst et_19
      have it_19 : ∀ w, (Instr.index 78 (.agg #[.int .i64 t_17_x0, .int .i64 t_17_x1, .int .i64 t_17_x2, .int .i64 t_17_x3, .int .i64 t_17_x4, .int .i64 t_17_x5, .int .i64 t_17_x6, .int .i64 t_17_x7, .int .i64 t_17_x8, .int .i64 t_17_x9]) (.int .i64 (nt_19 : Int))).run Tryd.prog w = .ok (.int .i64 yt_19) w := by
        intro w
        have hl := lt_19
        have hg := gt_19.out
        clear gt_19 H
        rcases nt_19 with _ | _ | _ | _ | _ | _ | _ | _ | _ | _ | _
        · obtain rfl := Option.some.inj hg; rfl
        · obtain rfl := Option.some.inj hg; rfl
        · obtain rfl := Option.some.inj hg; rfl
        · obtain rfl := Option.some.inj hg; rfl
        · obtain rfl := Option.some.inj hg; rfl
        · obtain rfl := Option.some.inj hg; rfl
        · obtain rfl := Option.some.inj hg; rfl
        · obtain rfl := Option.some.inj hg; rfl
        · obtain rfl := Option.some.inj hg; rfl
        · obtain rfl := Option.some.inj hg; rfl
        · simp at hl; omega
      replace H := let_hid H
      obtain ⟨t_22, ht_22, H⟩ := H
      cases t_22 with
      | false =>
        replace H := ite_f H
        cases ret_hid H
        go_wp2_with fail
        go_ret2
        exact ⟨rfl, HBwt_17.out⟩
      | true =>
        replace H := ite_t H
        cases ret_hid H
        go_wp2_with fail
        go_ret2
        exact ⟨rfl, HBwt_17.out⟩
end Go.Proofs.YtfjcibkgbalkaaaDoor.GiEarliestAt

/- loop.example/g01062/spec.DrawMissedMails as a plain function, and the contract of the program's: where the plain one has an answer, the program has it. Conditions: slices read as lists. -/
namespace Go.Proofs.YtfjcibkgbalkaaaDoor.GsDrawMissedMails
set_option linter.unusedVariables false
set_option linter.unusedSimpArgs false
open Go.RowKit
open Go.Proofs.YtfjcibkgbalkaaaDoor.Rowed Go.Proofs.YtfjcibkgbalkaaaDoor.Turn Go.Proofs.YtfjcibkgbalkaaaDoor.Aid Go.Proofs.YtfjcibkgbalkaaaDoor.GoP Go.Proofs.YtfjcibkgbalkaaaDoor.GoM

def P (fuel : Nat) (tapes : List Int → Go.Proofs.YtfjcibkgbalkaaaDoor.GoC.Tape) (code : (List Int)) : Option ((List Go.Proofs.YtfjcibkgbalkaaaDoor.PMail.Mail) × Int × Int) :=
  letK (tapes code) fun (t_5 : Go.Proofs.YtfjcibkgbalkaaaDoor.GoC.Tape) =>
  bind2 (Go.Proofs.YtfjcibkgbalkaaaDoor.GsL1CurTimetable.P fuel t_5) fun (t_8 : (List Go.Proofs.YtfjcibkgbalkaaaDoor.PMail.Mail)) (t_8_tp : Go.Proofs.YtfjcibkgbalkaaaDoor.GoC.Tape) =>
  letK ([0, 1, 2, 3, 10]) fun (t_10 : (List Int)) =>
  bind2 (Go.Proofs.YtfjcibkgbalkaaaDoor.GsL1CurAmong.P t_8_tp t_10) fun (t_11 : Int) (t_11_tp : Go.Proofs.YtfjcibkgbalkaaaDoor.GoC.Tape) =>
  letK ([0, 0, 5, 10, 11, 10000]) fun (t_13 : (List Int)) =>
  bind2 (Go.Proofs.YtfjcibkgbalkaaaDoor.GsL1CurAmong.P t_11_tp t_13) fun (t_14 : Int) (t_14_tp : Go.Proofs.YtfjcibkgbalkaaaDoor.GoC.Tape) =>
  some (t_8, t_11, t_14)

set_option maxRecDepth 100000 in
set_option maxHeartbeats 2000000 in
theorem C (fuel : Nat) (tapes : List Int → Go.Proofs.YtfjcibkgbalkaaaDoor.GoC.Tape) (code : (List Int)) (A0 : Option Addr) (c0 : Nat)  (w : World) (HE : Hid (Go.Proofs.YtfjcibkgbalkaaaDoor.GoC.Tells tapes)) (M0 : Hid (Cells w 1 A0 code.length (Go.Proofs.YtfjcibkgbalkaaaDoor.GoC.u8s code))) (N0 : Hid (code.length ≤ 9223372036854775807)) (V0 : Hid (∀ z ∈ code, 0 ≤ z ∧ z ≤ 255))  {r0 : (List Go.Proofs.YtfjcibkgbalkaaaDoor.PMail.Mail)} {r1 : Int} {r2 : Int} (H : Hid (P fuel tapes code = some (r0, r1, r2))) :
    Calls Tryd.prog 28 #[.slice A0 code.length c0] w (fun e w' => ∃ A_r0 c_r0, e = .returned (.tuple #[.slice A_r0 r0.length c_r0, .int .i64 r1, .int .i64 r2]) ∧ w'.ownsRow w.heap.size 54 4 (.slice A_r0 r0.length c_r0) r0.length (Go.Proofs.YtfjcibkgbalkaaaDoor.PMail.flat r0) ∧ Below w.heap.size w w') := by
  have HB := Lib.hid (Below.refl w.heap.size w)
  unfold P at H
  have N0o := N0.out
  go_enter Tryd.func28, Tryd.ntmps28
  replace H := let_hid H
  obtain ⟨t_5, ht_5, H⟩ := H
  obtain ⟨w_t_5, hw_t_5⟩ : ∃ x, w.alloc (.cells #[.slice A0 code.length c0, .int .i64 0, .int .u64 0] 65) = x := ⟨_, rfl⟩
  have bw_t_5 : Below w.heap.size w w_t_5 := by rw [← hw_t_5]; exact (Below.refl _ _).alloc (Nat.le_refl _) _
  have Kt_5 : Hid (Go.Proofs.YtfjcibkgbalkaaaDoor.GoC.CurIs w_t_5 w.heap.size w.heap.size A0 c0 t_5) := Lib.hid (by rw [← hw_t_5, ← ht_5]; exact Go.Proofs.YtfjcibkgbalkaaaDoor.GoC.cur_new HB.out.size (Cells.below M0.out HB.out) (fun a_ ha_ h0_ => by subst ha_; exact Go.Proofs.YtfjcibkgbalkaaaDoor.GoC.cells_lt M0.out (by unfold Go.Proofs.YtfjcibkgbalkaaaDoor.GoC.u8s; rw [List.length_map]; exact h0_)) (HE.out.2.2 code V0.out N0.out))
  have hht_5 := Lib.hid ht_5
  clear ht_5
  have HBw_t_5 := Lib.hid (Below.step HB.out bw_t_5)
  clear bw_t_5
  replace H := bind2_hid H
  obtain ⟨t_8, t_8_tp, qt_8, H⟩ := H
  go_wp2_with fail
  go_at_call 61
  refine (Go.Proofs.YtfjcibkgbalkaaaDoor.GsL1CurTimetable.C fuel (t_5) (w.heap.size) (A0) (c0) (w.heap.size) _   Kt_5 qt_8).mono ?_
  rintro e_t_8 wt_8 ⟨At_8, ct_8, rfl, ot_8, kt_8, gt_8⟩
  have Dt_8_t_5 := Lib.hid (Go.Proofs.YtfjcibkgbalkaaaDoor.GoC.apart_callcur ot_8 Kt_5.out)
  have Ot_8 := Lib.hid (own_lower ot_8 HBw_t_5.out.size)
  clear ot_8
  have Kt_8 := Lib.hid kt_8
  have Gt_8 : Hid (w_t_5.grownBy wt_8 (Value.slice (some ⟨w.heap.size, 0, none⟩) 1 1).ownBlock) := Lib.hid gt_8
  clear kt_8 gt_8
  have HBwt_8 := Lib.hid (Go.Proofs.YtfjcibkgbalkaaaDoor.GoC.below_cur HBw_t_5.out Gt_8.out HBw_t_5.out.size (Go.Proofs.YtfjcibkgbalkaaaDoor.GoC.cur_lt Kt_5.out).1)
  clear Kt_5 Gt_8
  replace H := let_hid H
  obtain ⟨t_10, ht_10, H⟩ := H
  obtain ⟨w_t_10, hw_t_10⟩ : ∃ x, wt_8.alloc (.cells #[.int .i64 0, .int .i64 1, .int .i64 2, .int .i64 3, .int .i64 10] 3) = x := ⟨_, rfl⟩
  have bw_t_10 : Below wt_8.heap.size wt_8 w_t_10 := by rw [← hw_t_10]; exact (Below.refl _ _).alloc (Nat.le_refl _) _
  have hs_t_10 := HBwt_8.out.size
  have nt_10 : t_10.length = 5 := by rw [← ht_10]; rfl
  have Ot_10 : Hid (w_t_10.ownsRow w.heap.size 3 1 (.slice (some ⟨wt_8.heap.size, 0, none⟩) 5 5) 5 (Go.Proofs.YtfjcibkgbalkaaaDoor.HelpInt.iv t_10)) := by
    rw [← hw_t_10, ← ht_10]
    have e_ : ([.int .i64 0, .int .i64 1, .int .i64 2, .int .i64 3, .int .i64 10] : List Value) = (Go.Proofs.YtfjcibkgbalkaaaDoor.HelpInt.iv ([0, 1, 2, 3, 10] : List Int)) := rfl
    exact Lib.hid (own_laid (n := 5) hs_t_10 e_ rfl (by unfold maxLen; omega))
  clear hs_t_10
  have hht_10 := Lib.hid ht_10
  clear ht_10
  replace nt_10 := Lib.hid nt_10
  have Dt_10_t_8 := Lib.hid (apart_fresh Ot_8.out)
  have Dt_10_t_5 := Lib.hid (Go.Proofs.YtfjcibkgbalkaaaDoor.GoC.apart_cur Kt_8.out)
  have HBw_t_10 := Lib.hid (Below.step HBwt_8.out bw_t_10)
  replace Ot_8 := Lib.hid (own_below Ot_8.out bw_t_10)
  replace Kt_8 := Lib.hid (Go.Proofs.YtfjcibkgbalkaaaDoor.GoC.cur_below Kt_8.out bw_t_10)
  clear bw_t_10
  replace H := bind2_hid H
  obtain ⟨t_11, t_11_tp, qt_11, H⟩ := H
  go_wp2_with fail
  have hc_ := nt_10.out
  have hv_ : (Value.slice (some ⟨wt_8.heap.size, 0, none⟩) 5 5 : Value) = Value.slice (some ⟨wt_8.heap.size, 0, none⟩) t_10.length 5 := by rw [hc_]
  try rw [hv_]
  replace Ot_10 := Lib.hid (own_len hc_ Ot_10.out)
  clear hc_ hv_
  go_wp2_with fail
  go_at_call 41
  refine (Go.Proofs.YtfjcibkgbalkaaaDoor.GsL1CurAmong.C (t_8_tp) (t_10) (some ⟨wt_8.heap.size, 0, none⟩) 5 (w.heap.size) (A0) (c0) (w.heap.size) _   (Lib.hid (own_cells Ot_10.out)) (Lib.hid (own_max Ot_10.out)) Kt_8 (Lib.hid (fun _ => Dt_10_t_5.out)) qt_11).mono ?_
  rintro e_t_11 wt_11 ⟨rfl, kt_11, gt_11⟩
  have Kt_11 := Lib.hid kt_11
  have Gt_11 : Hid (w_t_10.grownBy wt_11 (Value.slice (some ⟨w.heap.size, 0, none⟩) 1 1).ownBlock) := Lib.hid gt_11
  clear kt_11 gt_11
  have HBwt_11 := Lib.hid (Go.Proofs.YtfjcibkgbalkaaaDoor.GoC.below_cur HBw_t_10.out Gt_11.out HBw_t_10.out.size (Go.Proofs.YtfjcibkgbalkaaaDoor.GoC.cur_lt Kt_8.out).1)
  replace Ot_8 := Lib.hid (own_other Ot_8.out Gt_11.out (Apart.symm Dt_8_t_5.out))
  replace Ot_10 := Lib.hid (own_other Ot_10.out Gt_11.out (Apart.symm Dt_10_t_5.out))
  clear Kt_8 Gt_11
  replace H := let_hid H
  obtain ⟨t_13, ht_13, H⟩ := H
  obtain ⟨w_t_13, hw_t_13⟩ : ∃ x, wt_11.alloc (.cells #[.int .i64 0, .int .i64 0, .int .i64 5, .int .i64 10, .int .i64 11, .int .i64 10000] 3) = x := ⟨_, rfl⟩
  have bw_t_13 : Below wt_11.heap.size wt_11 w_t_13 := by rw [← hw_t_13]; exact (Below.refl _ _).alloc (Nat.le_refl _) _
  have hs_t_13 := HBwt_11.out.size
  have nt_13 : t_13.length = 6 := by rw [← ht_13]; rfl
  have Ot_13 : Hid (w_t_13.ownsRow w.heap.size 3 1 (.slice (some ⟨wt_11.heap.size, 0, none⟩) 6 6) 6 (Go.Proofs.YtfjcibkgbalkaaaDoor.HelpInt.iv t_13)) := by
    rw [← hw_t_13, ← ht_13]
    have e_ : ([.int .i64 0, .int .i64 0, .int .i64 5, .int .i64 10, .int .i64 11, .int .i64 10000] : List Value) = (Go.Proofs.YtfjcibkgbalkaaaDoor.HelpInt.iv ([0, 0, 5, 10, 11, 10000] : List Int)) := rfl
    exact Lib.hid (own_laid (n := 6) hs_t_13 e_ rfl (by unfold maxLen; omega))
  clear hs_t_13
  have hht_13 := Lib.hid ht_13
  clear ht_13
  replace nt_13 := Lib.hid nt_13
  have Dt_13_t_8 := Lib.hid (apart_fresh Ot_8.out)
  have Dt_13_t_10 := Lib.hid (apart_fresh Ot_10.out)
  have Dt_13_t_5 := Lib.hid (Go.Proofs.YtfjcibkgbalkaaaDoor.GoC.apart_cur Kt_11.out)
  have HBw_t_13 := Lib.hid (Below.step HBwt_11.out bw_t_13)
  replace Ot_8 := Lib.hid (own_below Ot_8.out bw_t_13)
  replace Ot_10 := Lib.hid (own_below Ot_10.out bw_t_13)
  replace Kt_11 := Lib.hid (Go.Proofs.YtfjcibkgbalkaaaDoor.GoC.cur_below Kt_11.out bw_t_13)
  clear bw_t_13
  replace H := bind2_hid H
  obtain ⟨t_14, t_14_tp, qt_14, H⟩ := H
  go_wp2_with fail
  have hc_ := nt_13.out
  have hv_ : (Value.slice (some ⟨wt_11.heap.size, 0, none⟩) 6 6 : Value) = Value.slice (some ⟨wt_11.heap.size, 0, none⟩) t_13.length 6 := by rw [hc_]
  try rw [hv_]
  replace Ot_13 := Lib.hid (own_len hc_ Ot_13.out)
  clear hc_ hv_
  go_wp2_with fail
  go_at_call 41
  refine (Go.Proofs.YtfjcibkgbalkaaaDoor.GsL1CurAmong.C (t_11_tp) (t_13) (some ⟨wt_11.heap.size, 0, none⟩) 6 (w.heap.size) (A0) (c0) (w.heap.size) _   (Lib.hid (own_cells Ot_13.out)) (Lib.hid (own_max Ot_13.out)) Kt_11 (Lib.hid (fun _ => Dt_13_t_5.out)) qt_14).mono ?_
  rintro e_t_14 wt_14 ⟨rfl, kt_14, gt_14⟩
  have Kt_14 := Lib.hid kt_14
  have Gt_14 : Hid (w_t_13.grownBy wt_14 (Value.slice (some ⟨w.heap.size, 0, none⟩) 1 1).ownBlock) := Lib.hid gt_14
  clear kt_14 gt_14
  have HBwt_14 := Lib.hid (Go.Proofs.YtfjcibkgbalkaaaDoor.GoC.below_cur HBw_t_13.out Gt_14.out HBw_t_13.out.size (Go.Proofs.YtfjcibkgbalkaaaDoor.GoC.cur_lt Kt_11.out).1)
  replace Ot_8 := Lib.hid (own_other Ot_8.out Gt_14.out (Apart.symm Dt_8_t_5.out))
  replace Ot_10 := Lib.hid (own_other Ot_10.out Gt_14.out (Apart.symm Dt_10_t_5.out))
  replace Ot_13 := Lib.hid (own_other Ot_13.out Gt_14.out (Apart.symm Dt_13_t_5.out))
  clear Kt_11 Gt_14
  cases ret_hid H
  go_wp2_with fail
  go_ret3
  exact ⟨At_8, ct_8, rfl, Ot_8.out, HBwt_14.out⟩
end Go.Proofs.YtfjcibkgbalkaaaDoor.GsDrawMissedMails

/- loop.example/g01062/impl.MissedMails as a plain function, and the contract of the program's: where the plain one has an answer, the program has it. Conditions: slices read as lists. -/
namespace Go.Proofs.YtfjcibkgbalkaaaDoor.GiMissedMails
set_option linter.unusedVariables false
set_option linter.unusedSimpArgs false
open Go.RowKit
open Go.Proofs.YtfjcibkgbalkaaaDoor.Rowed Go.Proofs.YtfjcibkgbalkaaaDoor.Turn Go.Proofs.YtfjcibkgbalkaaaDoor.Aid Go.Proofs.YtfjcibkgbalkaaaDoor.GoP Go.Proofs.YtfjcibkgbalkaaaDoor.GoM

def l0 (list : (List Go.Proofs.YtfjcibkgbalkaaaDoor.PMail.Mail)) (vearliest_16 : (List Int)) (k0 : Nat) (s : (List Int)) (nx0 bk0 : (List Int) → Option ((List Int) × Bool)) : Option ((List Int) × Bool) :=
  letK s fun missed_8l0 =>
  Option.bind (idx list (k0 : Int)) fun (yt_23 : Go.Proofs.YtfjcibkgbalkaaaDoor.PMail.Mail) =>
  unMail yt_23 fun (t_23_leave : Int) (t_23_from_ : Int) (t_23_to_ : Int) (t_23_arrive : Int) =>
  Option.bind (idx vearliest_16 t_23_from_) fun (yt_32 : Int) =>
  letK (decide (t_23_leave < yt_32)) fun (t_34 : Bool) =>
  iteK t_34
  (guardK (missed_8l0.length ≤ 1099511627776) <|
  letK (missed_8l0 ++ [(k0 : Int)]) fun (t_38 : (List Int)) =>
  appK nx0 (t_38))
  (appK nx0 (missed_8l0))

def e0  (s : (List Int)) : Option ((List Int) × Bool) :=
  letK s fun missed_8l0 =>
  some (missed_8l0, true)

def P (list : (List Go.Proofs.YtfjcibkgbalkaaaDoor.PMail.Mail)) (from_1 : Int) (minute : Int) : Option ((List Int) × Bool) :=
  Option.bind (Go.Proofs.YtfjcibkgbalkaaaDoor.GiCanBegin.P list from_1 minute) fun (t_5 : Bool) =>
  letK (!t_5) fun (t_6 : Bool) =>
  iteK t_6
  (some (([] : List Int), false))
  (Option.bind (Go.Proofs.YtfjcibkgbalkaaaDoor.GiEarliestMinutes.P list from_1 minute) fun (t_15 : Go.Proofs.YtfjcibkgbalkaaaDoor.PIntA10.IntA10) =>
  unIntA10 t_15 fun (t_15_x0 : Int) (t_15_x1 : Int) (t_15_x2 : Int) (t_15_x3 : Int) (t_15_x4 : Int) (t_15_x5 : Int) (t_15_x6 : Int) (t_15_x7 : Int) (t_15_x8 : Int) (t_15_x9 : Int) =>
  letK ([t_15_x0, t_15_x1, t_15_x2, t_15_x3, t_15_x4, t_15_x5, t_15_x6, t_15_x7, t_15_x8, t_15_x9]) fun (vearliest_16 : (List Int)) =>
  cntK (l0 list vearliest_16) (list.length) 0 (([] : List Int)) (e0 ))

set_option maxRecDepth 100000 in
set_option maxHeartbeats 2000000 in
theorem C (list : (List Go.Proofs.YtfjcibkgbalkaaaDoor.PMail.Mail)) (from_1 : Int) (minute : Int) (A0 : Option Addr) (c0 : Nat)  (w : World) (M0 : Hid (Cells w 4 A0 list.length (Go.Proofs.YtfjcibkgbalkaaaDoor.PMail.flat list))) (N0 : Hid (list.length ≤ 9223372036854775807))  {r0 : (List Int)} {r1 : Bool} (H : Hid (P list from_1 minute = some (r0, r1))) :
    Calls Tryd.prog 29 #[.slice A0 list.length c0, .int .i64 from_1, .int .i64 minute] w (fun e w' => ∃ A_r0 c_r0, e = .returned (.tuple #[.slice A_r0 r0.length c_r0, .bool r1]) ∧ w'.ownsRow w.heap.size 3 1 (.slice A_r0 r0.length c_r0) r0.length (Go.Proofs.YtfjcibkgbalkaaaDoor.HelpInt.iv r0) ∧ Below w.heap.size w w') := by
  have HB := Lib.hid (Below.refl w.heap.size w)
  unfold P at H
  have N0o := N0.out
  obtain ⟨i0_3, hi_3, hz0_3, hz1_3, hz2_3⟩ := Aid.info_parts (P := Tryd.prog) (T := 3) (z := .int .i64 0) (s := 1) (b := 8) (by kernel_rfl)
  go_enter Tryd.func29, Tryd.ntmps29
  replace H := bind_hid H
  obtain ⟨t_5, qt_5, H⟩ := H
  go_wp2_with fail
  go_at_call 69
  refine (Go.Proofs.YtfjcibkgbalkaaaDoor.GiCanBegin.C (list) (from_1) (minute) A0 c0 _   (Lib.hid (Cells.below M0.out HB.out)) N0 qt_5).mono ?_
  rintro e_t_5 wt_5 ⟨rfl, bt_5⟩
  have HBwt_5 := Lib.hid (Below.step HB.out bt_5)
  clear bt_5
  cases t_5 with
  | false =>
    replace H := let_hid H
    obtain ⟨t_6, ht_6, H⟩ := H
    obtain rfl : t_6 = true := ht_6.symm
    replace H := ite_t H
    obtain ⟨w_t_7, hw_t_7⟩ : ∃ x, wt_5.alloc (.cells #[] 3) = x := ⟨_, rfl⟩
    have bw_t_7 : Below wt_5.heap.size wt_5 w_t_7 := by rw [← hw_t_7]; exact (Below.refl _ _).alloc (Nat.le_refl _) _
    have Ot_7 : Hid (w_t_7.ownsRow w.heap.size 3 1 (.slice (some ⟨wt_5.heap.size, 0, none⟩) 0 0) 0 []) := Lib.hid (by rw [← hw_t_7]; exact own_empty HBwt_5.out.size)
    have HBw_t_7 := Lib.hid (Below.step HBwt_5.out bw_t_7)
    clear bw_t_7
    cases ret_hid H
    go_wp2_with fail
    go_ret2
    exact ⟨(some ⟨wt_5.heap.size, 0, none⟩), 0, rfl, Ot_7.out, HBw_t_7.out⟩
  | true =>
    replace H := let_hid H
    obtain ⟨t_6, ht_6, H⟩ := H
    obtain rfl : t_6 = false := ht_6.symm
    replace H := ite_f H
    obtain ⟨w_t_10, hw_t_10⟩ : ∃ x, wt_5.alloc (.cells #[] 3) = x := ⟨_, rfl⟩
    have bw_t_10 : Below wt_5.heap.size wt_5 w_t_10 := by rw [← hw_t_10]; exact (Below.refl _ _).alloc (Nat.le_refl _) _
    have Ot_10 : Hid (w_t_10.ownsRow w.heap.size 3 1 (.slice (some ⟨wt_5.heap.size, 0, none⟩) 0 0) 0 []) := Lib.hid (by rw [← hw_t_10]; exact own_empty HBwt_5.out.size)
    have HBw_t_10 := Lib.hid (Below.step HBwt_5.out bw_t_10)
    clear bw_t_10
    replace H := bind_hid H
    obtain ⟨t_15, qt_15, H⟩ := H
    obtain ⟨t_15_x0, t_15_x1, t_15_x2, t_15_x3, t_15_x4, t_15_x5, t_15_x6, t_15_x7, t_15_x8, t_15_x9⟩ := t_15
    replace H := unIntA10_hid H
    go_wp2_with fail
    go_at_call 70
    refine (Go.Proofs.YtfjcibkgbalkaaaDoor.GiEarliestMinutes.C (list) (from_1) (minute) A0 c0 _   (Lib.hid (Cells.below M0.out HBw_t_10.out)) N0 qt_15).mono ?_
    rintro e_t_15 wt_15 ⟨rfl, bt_15⟩
    unfold Go.Proofs.YtfjcibkgbalkaaaDoor.PIntA10.IntA10.val
    have HBwt_15 := Lib.hid (Below.step HBw_t_10.out bt_15)
    replace Ot_10 := Lib.hid (own_below Ot_10.out bt_15)
    clear bt_15
    replace H := let_hid H
    obtain ⟨vearliest_16, hvearliest_16, H⟩ := H
    obtain ⟨w_earliest_16, hw_earliest_16⟩ : ∃ x, wt_15.alloc (.cells #[.int .i64 t_15_x0, .int .i64 t_15_x1, .int .i64 t_15_x2, .int .i64 t_15_x3, .int .i64 t_15_x4, .int .i64 t_15_x5, .int .i64 t_15_x6, .int .i64 t_15_x7, .int .i64 t_15_x8, .int .i64 t_15_x9] 78) = x := ⟨_, rfl⟩
    have bw_earliest_16 : Below wt_15.heap.size wt_15 w_earliest_16 := by rw [← hw_earliest_16]; exact (Below.refl _ _).alloc (Nat.le_refl _) _
    have hs_earliest_16 := HBwt_15.out.size
    have nearliest_16 : vearliest_16.length = 10 := by rw [← hvearliest_16]; rfl
    have Oearliest_16 : Hid (w_earliest_16.ownsRow w.heap.size 78 1 (.slice (some ⟨wt_15.heap.size, 0, none⟩) 10 10) 10 (Go.Proofs.YtfjcibkgbalkaaaDoor.HelpInt.iv vearliest_16)) := by
      rw [← hw_earliest_16, ← hvearliest_16]
      have e_ : ([.int .i64 t_15_x0, .int .i64 t_15_x1, .int .i64 t_15_x2, .int .i64 t_15_x3, .int .i64 t_15_x4, .int .i64 t_15_x5, .int .i64 t_15_x6, .int .i64 t_15_x7, .int .i64 t_15_x8, .int .i64 t_15_x9] : List Value) = Go.Proofs.YtfjcibkgbalkaaaDoor.HelpInt.iv [t_15_x0, t_15_x1, t_15_x2, t_15_x3, t_15_x4, t_15_x5, t_15_x6, t_15_x7, t_15_x8, t_15_x9] := rfl
      exact Lib.hid (own_laid (n := 10) hs_earliest_16 e_ rfl (by unfold maxLen; omega))
    clear hs_earliest_16
    have hhearliest_16 := Lib.hid hvearliest_16
    clear hvearliest_16
    replace nearliest_16 := Lib.hid nearliest_16
    have Dearliest_16_t_10 := Lib.hid (apart_fresh Ot_10.out)
    have HBw_earliest_16 := Lib.hid (Below.step HBwt_15.out bw_earliest_16)
    replace Ot_10 := Lib.hid (own_below Ot_10.out bw_earliest_16)
    clear bw_earliest_16
    go_wp2_with fail
    go_loopg [25, 8] (list.length) (fun m_ v25_ v8_ wr => ∃ (k0 : Nat) (missed_8l0 : (List Int)) (Amissed_8l0 : Option Addr) (cmissed_8l0 : Nat), k0 + m_ = list.length ∧ v25_ = .int .i64 (k0 : Int) ∧ v8_ = .slice Amissed_8l0 missed_8l0.length cmissed_8l0 ∧ Hid (cntK (l0 list vearliest_16) m_ k0 (missed_8l0) (e0 ) = some (r0, r1)) ∧ Hid (Below w.heap.size w wr) ∧ Hid (wr.ownsRow w.heap.size 3 1 (.slice Amissed_8l0 missed_8l0.length cmissed_8l0) missed_8l0.length (Go.Proofs.YtfjcibkgbalkaaaDoor.HelpInt.iv missed_8l0)) ∧ Hid (wr.ownsRow w.heap.size 78 1 (.slice (some ⟨wt_15.heap.size, 0, none⟩) 10 10) 10 (Go.Proofs.YtfjcibkgbalkaaaDoor.HelpInt.iv vearliest_16)) ∧ Hid (Apart Amissed_8l0 (some ⟨wt_15.heap.size, 0, none⟩)))
    case atStart => exact ⟨0, _, _, _, by omega, rfl, rfl, H, HBw_earliest_16, Ot_10, Oearliest_16, Lib.hid (Apart.symm Dearliest_16_t_10.out)⟩
    case round =>
      obtain ⟨k0, missed_8l0, Amissed_8l0, cmissed_8l0, hkm0, rfl, rfl, H, HBwr0, Omissed_8l0, Oearliest_16, Dmissed_8l0_earliest_16⟩ := hrel
      rename World => wr0
      cases gk with
      | zero =>
        obtain rfl : k0 = list.length := by omega
        have hc0 : decide (((list.length : Nat) : Int) < ((list.length : Nat) : Int)) = false := by simp
        replace H := cnt_zero H
        unfold e0 at H
        replace H := let_hid H
        obtain ⟨_, rfl, H⟩ := H
        cases ret_hid H
        go_wp2_with fail
        go_ret2
        exact ⟨Amissed_8l0, cmissed_8l0, rfl, Omissed_8l0.out, HBwr0.out⟩
      | succ m0 =>
        have hlt0 : k0 < list.length := by omega
        have hc0 : decide ((k0 : Int) < ((list.length : Nat) : Int)) = true := by simp; omega
        replace H := cnt_succ H
        unfold l0 at H
        replace H := let_hid H
        obtain ⟨_, rfl, H⟩ := H
        replace H := idx_hid H
        obtain ⟨nt_23, yt_23, et_23, lt_23, gt_23, H⟩ := H
        obtain rfl : k0 = nt_23 := by omega
        clear et_23
        obtain ⟨t_23_leave, t_23_from_, t_23_to_, t_23_arrive⟩ := yt_23
        replace H := unMail_hid H
        obtain ⟨ab_t_23, ao_t_23, zt_23, At_23, z_t_23, ct_23_0, ct_23_1, ct_23_2, ct_23_3⟩ := Go.Proofs.YtfjcibkgbalkaaaDoor.OMail.at_ M0.out lt_23
        obtain rfl := Option.some.inj (gt_23.out.symm.trans z_t_23)
        subst At_23
        have ltt_23 := cell_lt ct_23_0
        replace ct_23_0 := cell_below HBwr0.out ct_23_0
        replace ct_23_1 := cell_below HBwr0.out ct_23_1
        replace ct_23_2 := cell_below HBwr0.out ct_23_2
        replace ct_23_3 := cell_below HBwr0.out ct_23_3
        clear z_t_23
        have b0t_23 : (0 : Int) ≤ (k0 : Int) := by omega
        have b1t_23 : (k0 : Int) < ((list.length : Nat) : Int) := by omega
        have b2t_23 : ((k0 : Int)).toNat = k0 := by omega
        obtain ⟨w_x_25, hw_x_25⟩ : ∃ x, wr0.alloc (.cells #[.int .i64 t_23_leave, .int .i64 t_23_from_, .int .i64 t_23_to_, .int .i64 t_23_arrive] 54) = x := ⟨_, rfl⟩
        have bw_x_25 : Below wr0.heap.size wr0 w_x_25 := by rw [← hw_x_25]; exact (Below.refl _ _).alloc (Nat.le_refl _) _
        have Dx_25_earliest_16 := Lib.hid (apart_fresh Oearliest_16.out)
        have Dx_25_missed_8l0 := Lib.hid (apart_fresh Omissed_8l0.out)
        have HBw_x_25 := Lib.hid (Below.step HBwr0.out bw_x_25)
        have ct_23_0__331 := cell_below bw_x_25 ct_23_0
        have ct_23_1__332 := cell_below bw_x_25 ct_23_1
        have ct_23_2__333 := cell_below bw_x_25 ct_23_2
        have ct_23_3__334 := cell_below bw_x_25 ct_23_3
        replace Oearliest_16 := Lib.hid (own_below Oearliest_16.out bw_x_25)
        replace Omissed_8l0 := Lib.hid (own_below Omissed_8l0.out bw_x_25)
        clear bw_x_25
        have kx_25_0 : w_x_25.cell? ⟨wr0.heap.size, 0, none⟩ = some (.int .i64 t_23_leave) := by rw [← hw_x_25]; exact box_new _ _ _ 0 _ rfl
        have kx_25_1 : w_x_25.cell? ⟨wr0.heap.size, 1, none⟩ = some (.int .i64 t_23_from_) := by rw [← hw_x_25]; exact box_new _ _ _ 1 _ rfl
        have kx_25_2 : w_x_25.cell? ⟨wr0.heap.size, 2, none⟩ = some (.int .i64 t_23_to_) := by rw [← hw_x_25]; exact box_new _ _ _ 2 _ rfl
        have kx_25_3 : w_x_25.cell? ⟨wr0.heap.size, 3, none⟩ = some (.int .i64 t_23_arrive) := by rw [← hw_x_25]; exact box_new _ _ _ 3 _ rfl
        go_wp2_with fail
        clear ct_23_0 ct_23_1 ct_23_2 ct_23_3
        have Hct_23_0__331 := Lib.hid ct_23_0__331
        replace ct_23_0__331 := cell_regrown ct_23_0__331
        have Hct_23_1__332 := Lib.hid ct_23_1__332
        replace ct_23_1__332 := cell_regrown ct_23_1__332
        have Hct_23_2__333 := Lib.hid ct_23_2__333
        replace ct_23_2__333 := cell_regrown ct_23_2__333
        have Hct_23_3__334 := Lib.hid ct_23_3__334
        replace ct_23_3__334 := cell_regrown ct_23_3__334
        have Hkx_25_0 := Lib.hid kx_25_0
        replace kx_25_0 := cell_regrown kx_25_0
        have Hkx_25_1 := Lib.hid kx_25_1
        replace kx_25_1 := cell_regrown kx_25_1
        have Hkx_25_2 := Lib.hid kx_25_2
        replace kx_25_2 := cell_regrown kx_25_2
        have Hkx_25_3 := Lib.hid kx_25_3
        replace kx_25_3 := cell_regrown kx_25_3
        replace H := idx_hid H
        obtain ⟨nt_32, yt_32, et_32, lt_32, gt_32, H⟩ := H
        subst et_32
        have hqt_32 := nearliest_16.out
        obtain ⟨ab_t_32, ao_t_32, zt_32, At_32, z_t_32, ct_32_0⟩ := Go.Proofs.YtfjcibkgbalkaaaDoor.HelpInt.Ints.at_ (own_cells Oearliest_16.out) (k := nt_32) (by omega)
        obtain rfl := Option.some.inj (gt_32.out.symm.trans z_t_32)
        simp only [Option.some.injEq, Addr.mk.injEq] at At_32
        obtain ⟨rfl, rfl, _⟩ := At_32
        clear z_t_32
        simp only [Nat.zero_add] at ct_32_0
        have b0t_32 : (0 : Int) ≤ (nt_32 : Int) := by omega
        have b1t_32 : (nt_32 : Int) < ((10 : Nat) : Int) := by omega
        have b2t_32 : ((nt_32 : Int)).toNat = nt_32 := by omega
        clear hqt_32
        have Hct_32_0 := Lib.hid ct_32_0
        replace ct_32_0 := cell_regrown ct_32_0
        have b3t_32 : nt_32 < 10 := by have h_ := lt_32; have hn_ := nearliest_16.out; omega
        have b4t_32 : (nt_32 : Int) < (10 : Int) := by omega
        replace H := let_hid H
        obtain ⟨t_34, ht_34, H⟩ := H
        refine wp_region_quiet_below (by kernel_rfl) (by kernel_rfl) ?_
        repeat (go_big_quiet_step (fail))
        refine wpQuiet_nil ?_
        intro Y8 hY8
        replace hY8 := below_class hY8
        replace ct_23_0__331 := Hct_23_0__331.out
        clear Hct_23_0__331
        replace ct_23_1__332 := Hct_23_1__332.out
        clear Hct_23_1__332
        replace ct_23_2__333 := Hct_23_2__333.out
        clear Hct_23_2__333
        replace ct_23_3__334 := Hct_23_3__334.out
        clear Hct_23_3__334
        replace kx_25_0 := Hkx_25_0.out
        clear Hkx_25_0
        replace kx_25_1 := Hkx_25_1.out
        clear Hkx_25_1
        replace kx_25_2 := Hkx_25_2.out
        clear Hkx_25_2
        replace kx_25_3 := Hkx_25_3.out
        clear Hkx_25_3
        replace ct_32_0 := Hct_32_0.out
        clear Hct_32_0
        have HBY8 := Lib.hid (Below.step HBw_x_25.out hY8)
        replace ct_23_0__331 := cell_below hY8 ct_23_0__331
        replace ct_23_1__332 := cell_below hY8 ct_23_1__332
        replace ct_23_2__333 := cell_below hY8 ct_23_2__333
        replace ct_23_3__334 := cell_below hY8 ct_23_3__334
        replace kx_25_0 := cell_below hY8 kx_25_0
        replace kx_25_1 := cell_below hY8 kx_25_1
        replace kx_25_2 := cell_below hY8 kx_25_2
        replace kx_25_3 := cell_below hY8 kx_25_3
        replace ct_32_0 := cell_below hY8 ct_32_0
        replace Oearliest_16 := Lib.hid (own_below Oearliest_16.out hY8)
        replace Omissed_8l0 := Lib.hid (own_below Omissed_8l0.out hY8)
        clear hY8
        cases t_34 with
        | false =>
          replace H := ite_f H
          replace H := app_hid H
          go_wp2_with fail
          go_roundg m0
          case measure => omega
          case rel => exact ⟨k0 + 1, _, _, _, by omega, by go_num, rfl, H, HBY8, Omissed_8l0, Oearliest_16, Lib.hid Dmissed_8l0_earliest_16.out⟩
        | true =>
          replace H := ite_t H
          obtain ⟨w_t_37, hw_t_37⟩ : ∃ x, Y8.alloc (.cells #[.int .i64 (k0 : Int)] 3) = x := ⟨_, rfl⟩
          have bw_t_37 : Below Y8.heap.size Y8 w_t_37 := by rw [← hw_t_37]; exact (Below.refl _ _).alloc (Nat.le_refl _) _
          have HBw_t_37 := Lib.hid (Below.step HBY8.out bw_t_37)
          have ct_23_0__335 := cell_below bw_t_37 ct_23_0__331
          have ct_23_1__336 := cell_below bw_t_37 ct_23_1__332
          have ct_23_2__337 := cell_below bw_t_37 ct_23_2__333
          have ct_23_3__338 := cell_below bw_t_37 ct_23_3__334
          have kx_25_0__339 := cell_below bw_t_37 kx_25_0
          have kx_25_1__340 := cell_below bw_t_37 kx_25_1
          have kx_25_2__341 := cell_below bw_t_37 kx_25_2
          have kx_25_3__342 := cell_below bw_t_37 kx_25_3
          have ct_32_0__343 := cell_below bw_t_37 ct_32_0
          replace Oearliest_16 := Lib.hid (own_below Oearliest_16.out bw_t_37)
          replace Omissed_8l0 := Lib.hid (own_below Omissed_8l0.out bw_t_37)
          clear bw_t_37
          replace H := guard_hid H
          obtain ⟨hlt_38, H⟩ := H
          replace H := let_hid H
          obtain ⟨t_38, ht_38, H⟩ := H
          have hht_38 := Lib.hid ht_38
          clear ht_38
          have hst_38 := HBw_t_37.out.size
          go_wp2_with (at_builtin; refine wpList_append_own_at _ rfl _ _ 49 rfl w.heap.size 3 i0_3 (.int .i64 0) 1 8 Tryd.underlying49 hi_3 hz0_3 hz1_3 hz2_3 rfl (by decide) _ _ _ rfl Omissed_8l0.out ⟨Y8.heap.size, 0, none⟩ 1 1 [.int .i64 (k0 : Int)] rfl rfl (news_new hw_t_37) (one_cells rfl) (by unfold maxLen; omega) (by omega) hst_38 ?_; intro vt_38 wt_38 ot_38 gt_38 zt_38 yt_38; clear zt_38; obtain ⟨qt_38, ct_38, rfl, pt_38⟩ := own_push hht_38.out (Go.Proofs.YtfjcibkgbalkaaaDoor.HelpInt.iv_snoc _ _) rfl ot_38; have Pt_38 := Lib.hid pt_38; have Yt_38 := Lib.hid yt_38; have Gt_38 := Lib.hid gt_38; clear ot_38 gt_38 pt_38 yt_38; refine stop_in ?_)
          refine stop_out ?_
          have HBwt_38 := Lib.hid (HBw_t_37.out.grown Gt_38.out hst_38 (fun q hq => (Omissed_8l0.out.lt q hq).1))
          clear hst_38
          have Dt_38_earliest_16 : Hid (Apart (some ⟨qt_38, 0, none⟩) _) := Lib.hid (apart_app Dmissed_8l0_earliest_16.out (fun a_ ha_ => (own_lt Oearliest_16.out a_ ha_).2) Yt_38.out)
          have Dt_38_x_25 : Hid (Apart (some ⟨qt_38, 0, none⟩) _) := Lib.hid (apart_app (Apart.symm Dx_25_missed_8l0.out) (fun a_ ha_ => by cases ha_; exact cell_lt kx_25_0__339) Yt_38.out)
          replace ct_23_0__335 := cell_other ct_23_0__335 Gt_38.out (apart_old Omissed_8l0.out ltt_23)
          replace ct_23_1__336 := cell_other ct_23_1__336 Gt_38.out (apart_old Omissed_8l0.out ltt_23)
          replace ct_23_2__337 := cell_other ct_23_2__337 Gt_38.out (apart_old Omissed_8l0.out ltt_23)
          replace ct_23_3__338 := cell_other ct_23_3__338 Gt_38.out (apart_old Omissed_8l0.out ltt_23)
          replace kx_25_0__339 := cell_other kx_25_0__339 Gt_38.out (Apart.symm Dx_25_missed_8l0.out)
          replace kx_25_1__340 := cell_other kx_25_1__340 Gt_38.out (Apart.symm Dx_25_missed_8l0.out)
          replace kx_25_2__341 := cell_other kx_25_2__341 Gt_38.out (Apart.symm Dx_25_missed_8l0.out)
          replace kx_25_3__342 := cell_other kx_25_3__342 Gt_38.out (Apart.symm Dx_25_missed_8l0.out)
          replace ct_32_0__343 := cell_other ct_32_0__343 Gt_38.out Dmissed_8l0_earliest_16.out
          replace Oearliest_16 := Lib.hid (own_other Oearliest_16.out Gt_38.out Dmissed_8l0_earliest_16.out)
          clear ct_23_0__331 ct_23_1__332 ct_23_2__333 ct_23_3__334 kx_25_0 kx_25_1 kx_25_2 kx_25_3 ct_32_0
          clear Omissed_8l0 Yt_38 Gt_38
          replace H := app_hid H
          go_wp2_with fail
          go_roundg m0
          case measure => omega
          case rel => exact ⟨k0 + 1, _, _, _, by omega, by go_num, rfl, H, HBwt_38, Pt_38, Oearliest_16, Lib.hid Dt_38_earliest_16.out⟩
end Go.Proofs.YtfjcibkgbalkaaaDoor.GiMissedMails

/- loop.example/g01062/spec.MissedMails as a plain function, and the contract of the program's: where the plain one has an answer, the program has it. Conditions: slices read as lists. -/
namespace Go.Proofs.YtfjcibkgbalkaaaDoor.GsMissedMails
set_option linter.unusedVariables false
set_option linter.unusedSimpArgs false
open Go.RowKit
open Go.Proofs.YtfjcibkgbalkaaaDoor.Rowed Go.Proofs.YtfjcibkgbalkaaaDoor.Turn Go.Proofs.YtfjcibkgbalkaaaDoor.Aid Go.Proofs.YtfjcibkgbalkaaaDoor.GoP Go.Proofs.YtfjcibkgbalkaaaDoor.GoM

def l0 (list : (List Go.Proofs.YtfjcibkgbalkaaaDoor.PMail.Mail)) (t_15 : (List Int)) (k0 : Nat) (s : (List Int)) (nx0 bk0 : (List Int) → Option ((List Int) × Bool)) : Option ((List Int) × Bool) :=
  letK s fun out_8l0 =>
  Option.bind (idx list (k0 : Int)) fun (yt_25 : Go.Proofs.YtfjcibkgbalkaaaDoor.PMail.Mail) =>
  unMail yt_25 fun (t_25_leave : Int) (t_25_from_ : Int) (t_25_to_ : Int) (t_25_arrive : Int) =>
  Option.bind (idx t_15 t_25_from_) fun (yt_28 : Int) =>
  Option.bind (idx list (k0 : Int)) fun (yt_32 : Go.Proofs.YtfjcibkgbalkaaaDoor.PMail.Mail) =>
  unMail yt_32 fun (t_32_leave : Int) (t_32_from_ : Int) (t_32_to_ : Int) (t_32_arrive : Int) =>
  letK (decide (t_32_leave < yt_28)) fun (t_35 : Bool) =>
  iteK t_35
  (guardK (out_8l0.length ≤ 1099511627776) <|
  letK (out_8l0 ++ [(k0 : Int)]) fun (t_39 : (List Int)) =>
  appK nx0 (t_39))
  (appK nx0 (out_8l0))

def e0  (s : (List Int)) : Option ((List Int) × Bool) :=
  letK s fun out_8l0 =>
  some (out_8l0, true)

def P (list : (List Go.Proofs.YtfjcibkgbalkaaaDoor.PMail.Mail)) (from_1 : Int) (minute : Int) : Option ((List Int) × Bool) :=
  Option.bind (Go.Proofs.YtfjcibkgbalkaaaDoor.GsL9Asked.P list from_1 minute) fun (t_7 : Bool) =>
  letK (!t_7) fun (t_8 : Bool) =>
  iteK t_8
  (some (([] : List Int), false))
  (Option.bind (Go.Proofs.YtfjcibkgbalkaaaDoor.GsL9Times.P list from_1 minute) fun (t_15 : (List Int)) =>
  cntK (l0 list t_15) (list.length) 0 (([] : List Int)) (e0 ))

set_option maxRecDepth 100000 in
set_option maxHeartbeats 2000000 in
theorem C (list : (List Go.Proofs.YtfjcibkgbalkaaaDoor.PMail.Mail)) (from_1 : Int) (minute : Int) (A0 : Option Addr) (c0 : Nat)  (w : World) (M0 : Hid (Cells w 4 A0 list.length (Go.Proofs.YtfjcibkgbalkaaaDoor.PMail.flat list))) (N0 : Hid (list.length ≤ 9223372036854775807))  {r0 : (List Int)} {r1 : Bool} (H : Hid (P list from_1 minute = some (r0, r1))) :
    Calls Tryd.prog 30 #[.slice A0 list.length c0, .int .i64 from_1, .int .i64 minute] w (fun e w' => ∃ A_r0 c_r0, e = .returned (.tuple #[.slice A_r0 r0.length c_r0, .bool r1]) ∧ w'.ownsRow w.heap.size 3 1 (.slice A_r0 r0.length c_r0) r0.length (Go.Proofs.YtfjcibkgbalkaaaDoor.HelpInt.iv r0) ∧ Below w.heap.size w w') := by
  have HB := Lib.hid (Below.refl w.heap.size w)
  unfold P at H
  have N0o := N0.out
  obtain ⟨i0_3, hi_3, hz0_3, hz1_3, hz2_3⟩ := Aid.info_parts (P := Tryd.prog) (T := 3) (z := .int .i64 0) (s := 1) (b := 8) (by kernel_rfl)
  go_enter Tryd.func30, Tryd.ntmps30
  obtain ⟨w_t_2, hw_t_2⟩ : ∃ x, w.alloc (.cells #[] 3) = x := ⟨_, rfl⟩
  have bw_t_2 : Below w.heap.size w w_t_2 := by rw [← hw_t_2]; exact (Below.refl _ _).alloc (Nat.le_refl _) _
  have Ot_2 : Hid (w_t_2.ownsRow w.heap.size 3 1 (.slice (some ⟨w.heap.size, 0, none⟩) 0 0) 0 []) := Lib.hid (by rw [← hw_t_2]; exact own_empty HB.out.size)
  have HBw_t_2 := Lib.hid (Below.step HB.out bw_t_2)
  clear bw_t_2
  replace H := bind_hid H
  obtain ⟨t_7, qt_7, H⟩ := H
  go_wp2_with fail
  go_at_call 66
  refine (Go.Proofs.YtfjcibkgbalkaaaDoor.GsL9Asked.C (list) (from_1) (minute) A0 c0 _   (Lib.hid (Cells.below M0.out HBw_t_2.out)) N0 qt_7).mono ?_
  rintro e_t_7 wt_7 ⟨rfl, bt_7⟩
  have HBwt_7 := Lib.hid (Below.step HBw_t_2.out bt_7)
  replace Ot_2 := Lib.hid (own_below Ot_2.out bt_7)
  clear bt_7
  cases t_7 with
  | false =>
    replace H := let_hid H
    obtain ⟨t_8, ht_8, H⟩ := H
    obtain rfl : t_8 = true := ht_8.symm
    replace H := ite_t H
    cases ret_hid H
    go_wp2_with fail
    go_ret2
    exact ⟨(some ⟨w.heap.size, 0, none⟩), 0, rfl, Ot_2.out, HBwt_7.out⟩
  | true =>
    replace H := let_hid H
    obtain ⟨t_8, ht_8, H⟩ := H
    obtain rfl : t_8 = false := ht_8.symm
    replace H := ite_f H
    replace H := bind_hid H
    obtain ⟨t_15, qt_15, H⟩ := H
    go_wp2_with fail
    go_at_call 68
    refine (Go.Proofs.YtfjcibkgbalkaaaDoor.GsL9Times.C (list) (from_1) (minute) A0 c0 _   (Lib.hid (Cells.below M0.out HBwt_7.out)) N0 qt_15).mono ?_
    rintro e_t_15 wt_15 ⟨At_15, ct_15, rfl, ot_15, bt_15⟩
    have Dt_15_t_2 := Lib.hid (apart_call ot_15 Ot_2.out)
    have Ot_15 := Lib.hid (own_lower ot_15 HBwt_7.out.size)
    clear ot_15
    have HBwt_15 := Lib.hid (Below.step HBwt_7.out bt_15)
    replace Ot_2 := Lib.hid (own_below Ot_2.out bt_15)
    clear bt_15
    go_wp2_with fail
    go_loopg [10, 8] (list.length) (fun m_ v10_ v8_ wr => ∃ (k0 : Nat) (out_8l0 : (List Int)) (Aout_8l0 : Option Addr) (cout_8l0 : Nat), k0 + m_ = list.length ∧ v10_ = .int .i64 (k0 : Int) ∧ v8_ = .slice Aout_8l0 out_8l0.length cout_8l0 ∧ Hid (cntK (l0 list t_15) m_ k0 (out_8l0) (e0 ) = some (r0, r1)) ∧ Hid (Below w.heap.size w wr) ∧ Hid (wr.ownsRow w.heap.size 3 1 (.slice Aout_8l0 out_8l0.length cout_8l0) out_8l0.length (Go.Proofs.YtfjcibkgbalkaaaDoor.HelpInt.iv out_8l0)) ∧ Hid (wr.ownsRow w.heap.size 3 1 (.slice At_15 t_15.length ct_15) t_15.length (Go.Proofs.YtfjcibkgbalkaaaDoor.HelpInt.iv t_15)) ∧ Hid (Apart Aout_8l0 At_15))
    case atStart => exact ⟨0, _, _, _, by omega, rfl, rfl, H, HBwt_15, Ot_2, Ot_15, Lib.hid (Apart.symm Dt_15_t_2.out)⟩
    case round =>
      obtain ⟨k0, out_8l0, Aout_8l0, cout_8l0, hkm0, rfl, rfl, H, HBwr0, Oout_8l0, Ot_15, Dout_8l0_t_15⟩ := hrel
      rename World => wr0
      cases gk with
      | zero =>
        obtain rfl : k0 = list.length := by omega
        have hc0 : decide (((list.length : Nat) : Int) < ((list.length : Nat) : Int)) = false := by simp
        replace H := cnt_zero H
        unfold e0 at H
        replace H := let_hid H
        obtain ⟨_, rfl, H⟩ := H
        cases ret_hid H
        go_wp2_with fail
        go_ret2
        exact ⟨Aout_8l0, cout_8l0, rfl, Oout_8l0.out, HBwr0.out⟩
      | succ m0 =>
        have hlt0 : k0 < list.length := by omega
        have hc0 : decide ((k0 : Int) < ((list.length : Nat) : Int)) = true := by simp; omega
        replace H := cnt_succ H
        unfold l0 at H
        replace H := let_hid H
        obtain ⟨_, rfl, H⟩ := H
        go_wp2_with fail
        replace H := idx_hid H
        obtain ⟨nt_25, yt_25, et_25, lt_25, gt_25, H⟩ := H
        obtain rfl : k0 = nt_25 := by omega
        clear et_25
        obtain ⟨t_25_leave, t_25_from_, t_25_to_, t_25_arrive⟩ := yt_25
        replace H := unMail_hid H
        obtain ⟨ab_t_25, ao_t_25, zt_25, At_25, z_t_25, ct_25_0, ct_25_1, ct_25_2, ct_25_3⟩ := Go.Proofs.YtfjcibkgbalkaaaDoor.OMail.at_ M0.out lt_25
        obtain rfl := Option.some.inj (gt_25.out.symm.trans z_t_25)
        subst At_25
        have ltt_25 := cell_lt ct_25_0
        replace ct_25_0 := cell_below HBwr0.out ct_25_0
        replace ct_25_1 := cell_below HBwr0.out ct_25_1
        replace ct_25_2 := cell_below HBwr0.out ct_25_2
        replace ct_25_3 := cell_below HBwr0.out ct_25_3
        clear z_t_25
        have b0t_25 : (0 : Int) ≤ (k0 : Int) := by omega
        have b1t_25 : (k0 : Int) < ((list.length : Nat) : Int) := by omega
        have b2t_25 : ((k0 : Int)).toNat = k0 := by omega
        have Hct_25_0 := Lib.hid ct_25_0
        replace ct_25_0 := cell_regrown ct_25_0
        have Hct_25_1 := Lib.hid ct_25_1
        replace ct_25_1 := cell_regrown ct_25_1
        have Hct_25_2 := Lib.hid ct_25_2
        replace ct_25_2 := cell_regrown ct_25_2
        have Hct_25_3 := Lib.hid ct_25_3
        replace ct_25_3 := cell_regrown ct_25_3
        replace H := idx_hid H
        obtain ⟨nt_28, yt_28, et_28, lt_28, gt_28, H⟩ := H
        subst et_28
        obtain ⟨qt_28, Qt_28⟩ := own_some Ot_15.out (by omega)
        subst Qt_28
        obtain ⟨ab_t_28, ao_t_28, zt_28, At_28, z_t_28, ct_28_0⟩ := Go.Proofs.YtfjcibkgbalkaaaDoor.HelpInt.Ints.at_ (own_cells Ot_15.out) (k := nt_28) (by omega)
        obtain rfl := Option.some.inj (gt_28.out.symm.trans z_t_28)
        simp only [Option.some.injEq, Addr.mk.injEq] at At_28
        obtain ⟨rfl, rfl, _⟩ := At_28
        clear z_t_28
        simp only [Nat.zero_add] at ct_28_0
        have b0t_28 : (0 : Int) ≤ (nt_28 : Int) := by omega
        have b1t_28 : (nt_28 : Int) < ((t_15.length : Nat) : Int) := by omega
        have b2t_28 : ((nt_28 : Int)).toNat = nt_28 := by omega
        have Hct_28_0 := Lib.hid ct_28_0
        replace ct_28_0 := cell_regrown ct_28_0
        replace H := idx_hid H
        obtain ⟨nt_32, yt_32, et_32, lt_32, gt_32, H⟩ := H
        obtain rfl : k0 = nt_32 := by omega
        clear et_32
        obtain rfl := Option.some.inj (gt_25.out.symm.trans gt_32.out)
        clear gt_32 lt_32
        replace H := unMail_hid H
        replace H := let_hid H
        obtain ⟨t_35, ht_35, H⟩ := H
        refine wp_region_quiet_below (by kernel_rfl) (by kernel_rfl) ?_
        repeat (go_big_quiet_step (fail))
        refine wpQuiet_nil ?_
        intro Y8 hY8
        replace hY8 := below_class hY8
        replace ct_25_0 := Hct_25_0.out
        clear Hct_25_0
        replace ct_25_1 := Hct_25_1.out
        clear Hct_25_1
        replace ct_25_2 := Hct_25_2.out
        clear Hct_25_2
        replace ct_25_3 := Hct_25_3.out
        clear Hct_25_3
        replace ct_28_0 := Hct_28_0.out
        clear Hct_28_0
        have HBY8 := Lib.hid (Below.step HBwr0.out hY8)
        replace ct_25_0 := cell_below hY8 ct_25_0
        replace ct_25_1 := cell_below hY8 ct_25_1
        replace ct_25_2 := cell_below hY8 ct_25_2
        replace ct_25_3 := cell_below hY8 ct_25_3
        replace ct_28_0 := cell_below hY8 ct_28_0
        replace Ot_15 := Lib.hid (own_below Ot_15.out hY8)
        replace Oout_8l0 := Lib.hid (own_below Oout_8l0.out hY8)
        clear hY8
        cases t_35 with
        | false =>
          replace H := ite_f H
          replace H := app_hid H
          go_wp2_with fail
          go_roundg m0
          case measure => omega
          case rel => exact ⟨k0 + 1, _, _, _, by omega, by go_num, rfl, H, HBY8, Oout_8l0, Ot_15, Lib.hid Dout_8l0_t_15.out⟩
        | true =>
          replace H := ite_t H
          obtain ⟨w_t_38, hw_t_38⟩ : ∃ x, Y8.alloc (.cells #[.int .i64 (k0 : Int)] 3) = x := ⟨_, rfl⟩
          have bw_t_38 : Below Y8.heap.size Y8 w_t_38 := by rw [← hw_t_38]; exact (Below.refl _ _).alloc (Nat.le_refl _) _
          have HBw_t_38 := Lib.hid (Below.step HBY8.out bw_t_38)
          have ct_25_0__344 := cell_below bw_t_38 ct_25_0
          have ct_25_1__345 := cell_below bw_t_38 ct_25_1
          have ct_25_2__346 := cell_below bw_t_38 ct_25_2
          have ct_25_3__347 := cell_below bw_t_38 ct_25_3
          have ct_28_0__348 := cell_below bw_t_38 ct_28_0
          replace Ot_15 := Lib.hid (own_below Ot_15.out bw_t_38)
          replace Oout_8l0 := Lib.hid (own_below Oout_8l0.out bw_t_38)
          clear bw_t_38
          replace H := guard_hid H
          obtain ⟨hlt_39, H⟩ := H
          replace H := let_hid H
          obtain ⟨t_39, ht_39, H⟩ := H
          have hht_39 := Lib.hid ht_39
          clear ht_39
          have hst_39 := HBw_t_38.out.size
          go_wp2_with (at_builtin; refine wpList_append_own_at _ rfl _ _ 49 rfl w.heap.size 3 i0_3 (.int .i64 0) 1 8 Tryd.underlying49 hi_3 hz0_3 hz1_3 hz2_3 rfl (by decide) _ _ _ rfl Oout_8l0.out ⟨Y8.heap.size, 0, none⟩ 1 1 [.int .i64 (k0 : Int)] rfl rfl (news_new hw_t_38) (one_cells rfl) (by unfold maxLen; omega) (by omega) hst_39 ?_; intro vt_39 wt_39 ot_39 gt_39 zt_39 yt_39; clear zt_39; obtain ⟨qt_39, ct_39, rfl, pt_39⟩ := own_push hht_39.out (Go.Proofs.YtfjcibkgbalkaaaDoor.HelpInt.iv_snoc _ _) rfl ot_39; have Pt_39 := Lib.hid pt_39; have Yt_39 := Lib.hid yt_39; have Gt_39 := Lib.hid gt_39; clear ot_39 gt_39 pt_39 yt_39; refine stop_in ?_)
          refine stop_out ?_
          have HBwt_39 := Lib.hid (HBw_t_38.out.grown Gt_39.out hst_39 (fun q hq => (Oout_8l0.out.lt q hq).1))
          clear hst_39
          have Dt_39_t_15 : Hid (Apart (some ⟨qt_39, 0, none⟩) _) := Lib.hid (apart_app Dout_8l0_t_15.out (fun a_ ha_ => (own_lt Ot_15.out a_ ha_).2) Yt_39.out)
          replace ct_25_0__344 := cell_other ct_25_0__344 Gt_39.out (apart_old Oout_8l0.out ltt_25)
          replace ct_25_1__345 := cell_other ct_25_1__345 Gt_39.out (apart_old Oout_8l0.out ltt_25)
          replace ct_25_2__346 := cell_other ct_25_2__346 Gt_39.out (apart_old Oout_8l0.out ltt_25)
          replace ct_25_3__347 := cell_other ct_25_3__347 Gt_39.out (apart_old Oout_8l0.out ltt_25)
          replace ct_28_0__348 := cell_other ct_28_0__348 Gt_39.out Dout_8l0_t_15.out
          replace Ot_15 := Lib.hid (own_other Ot_15.out Gt_39.out Dout_8l0_t_15.out)
          clear ct_25_0 ct_25_1 ct_25_2 ct_25_3 ct_28_0
          clear Oout_8l0 Yt_39 Gt_39
          replace H := app_hid H
          go_wp2_with fail
          go_roundg m0
          case measure => omega
          case rel => exact ⟨k0 + 1, _, _, _, by omega, by go_num, rfl, H, HBwt_39, Pt_39, Ot_15, Lib.hid Dt_39_t_15.out⟩
end Go.Proofs.YtfjcibkgbalkaaaDoor.GsMissedMails

/- loop.example/g01062/laws.vInts as a plain function, and the contract of the program's: where the plain one has an answer, the program has it. Conditions: slices read as lists. -/
namespace Go.Proofs.YtfjcibkgbalkaaaDoor.GlVInts
set_option linter.unusedVariables false
set_option linter.unusedSimpArgs false
open Go.RowKit
open Go.Proofs.YtfjcibkgbalkaaaDoor.Rowed Go.Proofs.YtfjcibkgbalkaaaDoor.Turn Go.Proofs.YtfjcibkgbalkaaaDoor.Aid Go.Proofs.YtfjcibkgbalkaaaDoor.GoP Go.Proofs.YtfjcibkgbalkaaaDoor.GoM

def l0 (a : (List Int)) (b : (List Int)) (k0 : Nat) (s : Unit) (nx0 bk0 : Unit → Option (Bool)) : Option (Bool) :=
  
  Option.bind (idx a (k0 : Int)) fun (yt_14 : Int) =>
  Option.bind (idx b (k0 : Int)) fun (yt_18 : Int) =>
  letK (yt_14 != yt_18) fun (t_20 : Bool) =>
  iteK t_20
  (some false)
  (appK nx0 ())

def e0  (s : Unit) : Option (Bool) :=
  
  some true

def P (a : (List Int)) (b : (List Int)) : Option (Bool) :=
  letK ((a.length : Int) != (b.length : Int)) fun (t_5 : Bool) =>
  iteK t_5
  (some false)
  (cntK (l0 a b) (a.length) 0 () (e0 ))

set_option maxRecDepth 100000 in
set_option maxHeartbeats 2000000 in
theorem C (a : (List Int)) (b : (List Int)) (A0 : Option Addr) (c0 : Nat) (A1 : Option Addr) (c1 : Nat)  (w : World) (M0 : Hid (Cells w 1 A0 a.length (Go.Proofs.YtfjcibkgbalkaaaDoor.HelpInt.iv a))) (N0 : Hid (a.length ≤ 9223372036854775807)) (M1 : Hid (Cells w 1 A1 b.length (Go.Proofs.YtfjcibkgbalkaaaDoor.HelpInt.iv b))) (N1 : Hid (b.length ≤ 9223372036854775807))  {r : Bool} (H : Hid (P a b = some r)) :
    Calls Tryd.prog 31 #[.slice A0 a.length c0, .slice A1 b.length c1] w (Gives (.bool r) w) := by
  have HB := Lib.hid (Below.refl w.heap.size w)
  unfold P at H
  have N0o := N0.out
  have N1o := N1.out
  go_enter Tryd.func31, Tryd.ntmps31
  replace H := let_hid H
  obtain ⟨t_5, ht_5, H⟩ := H
  cases t_5 with
  | false =>
    have Hht_5 : Hid (a.length = b.length) := Lib.hid (by have := bne_eq_false_iff_eq.1 ht_5; omega)
    have nht_5 : (a.length == b.length) = true := beq_iff_eq.2 Hht_5.out
    replace H := ite_f H
    go_wp2_with fail
    go_loopg [5] (a.length) (fun m_ v5_ wr => ∃ (k0 : Nat) , k0 + m_ = a.length ∧ v5_ = .int .i64 (k0 : Int) ∧ Hid (cntK (l0 a b) m_ k0 () (e0 ) = some r) ∧ Hid (Below w.heap.size w wr))
    case atStart => exact ⟨0, by omega, rfl, H, HB⟩
    case round =>
      obtain ⟨k0, hkm0, rfl, H, HBwr0⟩ := hrel
      rename World => wr0
      cases gk with
      | zero =>
        obtain rfl : k0 = a.length := by omega
        have hc0 : decide (((a.length : Nat) : Int) < ((a.length : Nat) : Int)) = false := by simp
        replace H := cnt_zero H
        unfold e0 at H
        obtain rfl := ret_hid H
        go_wp2_with fail
        go_ret
        exact ⟨rfl, HBwr0.out⟩
      | succ m0 =>
        have hlt0 : k0 < a.length := by omega
        have hc0 : decide ((k0 : Int) < ((a.length : Nat) : Int)) = true := by simp; omega
        replace H := cnt_succ H
        unfold l0 at H
        go_wp2_with fail
        replace H := idx_hid H
        obtain ⟨nt_14, yt_14, et_14, lt_14, gt_14, H⟩ := H
        obtain rfl : k0 = nt_14 := by omega
        clear et_14
        obtain ⟨ab_t_14, ao_t_14, zt_14, At_14, z_t_14, ct_14_0⟩ := Go.Proofs.YtfjcibkgbalkaaaDoor.HelpInt.Ints.at_ M0.out lt_14
        obtain rfl := Option.some.inj (gt_14.out.symm.trans z_t_14)
        subst At_14
        have ltt_14 := cell_lt ct_14_0
        replace ct_14_0 := cell_below HBwr0.out ct_14_0
        clear z_t_14
        have b0t_14 : (0 : Int) ≤ (k0 : Int) := by omega
        have b1t_14 : (k0 : Int) < ((a.length : Nat) : Int) := by omega
        have b2t_14 : ((k0 : Int)).toNat = k0 := by omega
        have Hct_14_0 := Lib.hid ct_14_0
        replace ct_14_0 := cell_regrown ct_14_0
        replace H := idx_hid H
        obtain ⟨nt_18, yt_18, et_18, lt_18, gt_18, H⟩ := H
        obtain rfl : k0 = nt_18 := by omega
        clear et_18
        obtain ⟨ab_t_18, ao_t_18, zt_18, At_18, z_t_18, ct_18_0⟩ := Go.Proofs.YtfjcibkgbalkaaaDoor.HelpInt.Ints.at_ M1.out lt_18
        obtain rfl := Option.some.inj (gt_18.out.symm.trans z_t_18)
        subst At_18
        have ltt_18 := cell_lt ct_18_0
        replace ct_18_0 := cell_below HBwr0.out ct_18_0
        clear z_t_18
        have b0t_18 : (0 : Int) ≤ (k0 : Int) := by omega
        have b1t_18 : (k0 : Int) < ((b.length : Nat) : Int) := by omega
        have b2t_18 : ((k0 : Int)).toNat = k0 := by omega
        have Hct_18_0 := Lib.hid ct_18_0
        replace ct_18_0 := cell_regrown ct_18_0
        replace H := let_hid H
        obtain ⟨t_20, ht_20, H⟩ := H
        refine wp_region_quiet_below (by kernel_rfl) (by kernel_rfl) ?_
        repeat (go_big_quiet_step (fail))
        refine wpQuiet_nil ?_
        intro Y6 hY6
        replace hY6 := below_class hY6
        replace ct_14_0 := Hct_14_0.out
        clear Hct_14_0
        replace ct_18_0 := Hct_18_0.out
        clear Hct_18_0
        have HBY6 := Lib.hid (Below.step HBwr0.out hY6)
        replace ct_14_0 := cell_below hY6 ct_14_0
        replace ct_18_0 := cell_below hY6 ct_18_0
        clear hY6
        cases t_20 with
        | false =>
          replace H := ite_f H
          replace H := app_hid H
          go_wp2_with fail
          go_roundg m0
          case measure => omega
          case rel => exact ⟨k0 + 1, by omega, by go_num, H, HBY6⟩
        | true =>
          replace H := ite_t H
          obtain rfl := ret_hid H
          go_wp2_with fail
          go_ret
          exact ⟨rfl, HBY6.out⟩
  | true =>
    have nht_5 : ¬ (a.length = b.length) := by have := bne_iff_ne.1 ht_5; omega
    replace H := ite_t H
    obtain rfl := ret_hid H
    go_wp2_with fail
    go_ret
    exact ⟨rfl, HB.out⟩
end Go.Proofs.YtfjcibkgbalkaaaDoor.GlVInts

/- loop.example/g01062/spec.DrawReachedBy as a plain function, and the contract of the program's: where the plain one has an answer, the program has it. Conditions: slices read as lists. -/
namespace Go.Proofs.YtfjcibkgbalkaaaDoor.GsDrawReachedBy
set_option linter.unusedVariables false
set_option linter.unusedSimpArgs false
open Go.RowKit
open Go.Proofs.YtfjcibkgbalkaaaDoor.Rowed Go.Proofs.YtfjcibkgbalkaaaDoor.Turn Go.Proofs.YtfjcibkgbalkaaaDoor.Aid Go.Proofs.YtfjcibkgbalkaaaDoor.GoP Go.Proofs.YtfjcibkgbalkaaaDoor.GoM

def P (fuel : Nat) (tapes : List Int → Go.Proofs.YtfjcibkgbalkaaaDoor.GoC.Tape) (code : (List Int)) : Option ((List Go.Proofs.YtfjcibkgbalkaaaDoor.PMail.Mail) × Int × Int × Int) :=
  letK (tapes code) fun (t_6 : Go.Proofs.YtfjcibkgbalkaaaDoor.GoC.Tape) =>
  bind2 (Go.Proofs.YtfjcibkgbalkaaaDoor.GsL1CurTimetable.P fuel t_6) fun (t_9 : (List Go.Proofs.YtfjcibkgbalkaaaDoor.PMail.Mail)) (t_9_tp : Go.Proofs.YtfjcibkgbalkaaaDoor.GoC.Tape) =>
  letK ([0, 1, 2, 3, 10]) fun (t_11 : (List Int)) =>
  bind2 (Go.Proofs.YtfjcibkgbalkaaaDoor.GsL1CurAmong.P t_9_tp t_11) fun (t_12 : Int) (t_12_tp : Go.Proofs.YtfjcibkgbalkaaaDoor.GoC.Tape) =>
  letK ([0, 0, 5, 10, 11, 10000]) fun (t_14 : (List Int)) =>
  bind2 (Go.Proofs.YtfjcibkgbalkaaaDoor.GsL1CurAmong.P t_12_tp t_14) fun (t_15 : Int) (t_15_tp : Go.Proofs.YtfjcibkgbalkaaaDoor.GoC.Tape) =>
  letK ([10, 20, 40, 60, 9999, 10000]) fun (t_17 : (List Int)) =>
  bind2 (Go.Proofs.YtfjcibkgbalkaaaDoor.GsL1CurAmong.P t_15_tp t_17) fun (t_18 : Int) (t_18_tp : Go.Proofs.YtfjcibkgbalkaaaDoor.GoC.Tape) =>
  some (t_9, t_12, t_15, t_18)

set_option maxRecDepth 100000 in
set_option maxHeartbeats 2000000 in
theorem C (fuel : Nat) (tapes : List Int → Go.Proofs.YtfjcibkgbalkaaaDoor.GoC.Tape) (code : (List Int)) (A0 : Option Addr) (c0 : Nat)  (w : World) (HE : Hid (Go.Proofs.YtfjcibkgbalkaaaDoor.GoC.Tells tapes)) (M0 : Hid (Cells w 1 A0 code.length (Go.Proofs.YtfjcibkgbalkaaaDoor.GoC.u8s code))) (N0 : Hid (code.length ≤ 9223372036854775807)) (V0 : Hid (∀ z ∈ code, 0 ≤ z ∧ z ≤ 255))  {r0 : (List Go.Proofs.YtfjcibkgbalkaaaDoor.PMail.Mail)} {r1 : Int} {r2 : Int} {r3 : Int} (H : Hid (P fuel tapes code = some (r0, r1, r2, r3))) :
    Calls Tryd.prog 32 #[.slice A0 code.length c0] w (fun e w' => ∃ A_r0 c_r0, e = .returned (.tuple #[.slice A_r0 r0.length c_r0, .int .i64 r1, .int .i64 r2, .int .i64 r3]) ∧ w'.ownsRow w.heap.size 54 4 (.slice A_r0 r0.length c_r0) r0.length (Go.Proofs.YtfjcibkgbalkaaaDoor.PMail.flat r0) ∧ Below w.heap.size w w') := by
  have HB := Lib.hid (Below.refl w.heap.size w)
  unfold P at H
  have N0o := N0.out
  go_enter Tryd.func32, Tryd.ntmps32
  replace H := let_hid H
  obtain ⟨t_6, ht_6, H⟩ := H
  obtain ⟨w_t_6, hw_t_6⟩ : ∃ x, w.alloc (.cells #[.slice A0 code.length c0, .int .i64 0, .int .u64 0] 65) = x := ⟨_, rfl⟩
  have bw_t_6 : Below w.heap.size w w_t_6 := by rw [← hw_t_6]; exact (Below.refl _ _).alloc (Nat.le_refl _) _
  have Kt_6 : Hid (Go.Proofs.YtfjcibkgbalkaaaDoor.GoC.CurIs w_t_6 w.heap.size w.heap.size A0 c0 t_6) := Lib.hid (by rw [← hw_t_6, ← ht_6]; exact Go.Proofs.YtfjcibkgbalkaaaDoor.GoC.cur_new HB.out.size (Cells.below M0.out HB.out) (fun a_ ha_ h0_ => by subst ha_; exact Go.Proofs.YtfjcibkgbalkaaaDoor.GoC.cells_lt M0.out (by unfold Go.Proofs.YtfjcibkgbalkaaaDoor.GoC.u8s; rw [List.length_map]; exact h0_)) (HE.out.2.2 code V0.out N0.out))
  have hht_6 := Lib.hid ht_6
  clear ht_6
  have HBw_t_6 := Lib.hid (Below.step HB.out bw_t_6)
  clear bw_t_6
  replace H := bind2_hid H
  obtain ⟨t_9, t_9_tp, qt_9, H⟩ := H
  go_wp2_with fail
  go_at_call 61
  refine (Go.Proofs.YtfjcibkgbalkaaaDoor.GsL1CurTimetable.C fuel (t_6) (w.heap.size) (A0) (c0) (w.heap.size) _   Kt_6 qt_9).mono ?_
  rintro e_t_9 wt_9 ⟨At_9, ct_9, rfl, ot_9, kt_9, gt_9⟩
  have Dt_9_t_6 := Lib.hid (Go.Proofs.YtfjcibkgbalkaaaDoor.GoC.apart_callcur ot_9 Kt_6.out)
  have Ot_9 := Lib.hid (own_lower ot_9 HBw_t_6.out.size)
  clear ot_9
  have Kt_9 := Lib.hid kt_9
  have Gt_9 : Hid (w_t_6.grownBy wt_9 (Value.slice (some ⟨w.heap.size, 0, none⟩) 1 1).ownBlock) := Lib.hid gt_9
  clear kt_9 gt_9
  have HBwt_9 := Lib.hid (Go.Proofs.YtfjcibkgbalkaaaDoor.GoC.below_cur HBw_t_6.out Gt_9.out HBw_t_6.out.size (Go.Proofs.YtfjcibkgbalkaaaDoor.GoC.cur_lt Kt_6.out).1)
  clear Kt_6 Gt_9
  replace H := let_hid H
  obtain ⟨t_11, ht_11, H⟩ := H
  obtain ⟨w_t_11, hw_t_11⟩ : ∃ x, wt_9.alloc (.cells #[.int .i64 0, .int .i64 1, .int .i64 2, .int .i64 3, .int .i64 10] 3) = x := ⟨_, rfl⟩
  have bw_t_11 : Below wt_9.heap.size wt_9 w_t_11 := by rw [← hw_t_11]; exact (Below.refl _ _).alloc (Nat.le_refl _) _
  have hs_t_11 := HBwt_9.out.size
  have nt_11 : t_11.length = 5 := by rw [← ht_11]; rfl
  have Ot_11 : Hid (w_t_11.ownsRow w.heap.size 3 1 (.slice (some ⟨wt_9.heap.size, 0, none⟩) 5 5) 5 (Go.Proofs.YtfjcibkgbalkaaaDoor.HelpInt.iv t_11)) := by
    rw [← hw_t_11, ← ht_11]
    have e_ : ([.int .i64 0, .int .i64 1, .int .i64 2, .int .i64 3, .int .i64 10] : List Value) = (Go.Proofs.YtfjcibkgbalkaaaDoor.HelpInt.iv ([0, 1, 2, 3, 10] : List Int)) := rfl
    exact Lib.hid (own_laid (n := 5) hs_t_11 e_ rfl (by unfold maxLen; omega))
  clear hs_t_11
  have hht_11 := Lib.hid ht_11
  clear ht_11
  replace nt_11 := Lib.hid nt_11
  have Dt_11_t_9 := Lib.hid (apart_fresh Ot_9.out)
  have Dt_11_t_6 := Lib.hid (Go.Proofs.YtfjcibkgbalkaaaDoor.GoC.apart_cur Kt_9.out)
  have HBw_t_11 := Lib.hid (Below.step HBwt_9.out bw_t_11)
  replace Ot_9 := Lib.hid (own_below Ot_9.out bw_t_11)
  replace Kt_9 := Lib.hid (Go.Proofs.YtfjcibkgbalkaaaDoor.GoC.cur_below Kt_9.out bw_t_11)
  clear bw_t_11
  replace H := bind2_hid H
  obtain ⟨t_12, t_12_tp, qt_12, H⟩ := H
  go_wp2_with fail
  have hc_ := nt_11.out
  have hv_ : (Value.slice (some ⟨wt_9.heap.size, 0, none⟩) 5 5 : Value) = Value.slice (some ⟨wt_9.heap.size, 0, none⟩) t_11.length 5 := by rw [hc_]
  try rw [hv_]
  replace Ot_11 := Lib.hid (own_len hc_ Ot_11.out)
  clear hc_ hv_
  go_wp2_with fail
  go_at_call 41
  refine (Go.Proofs.YtfjcibkgbalkaaaDoor.GsL1CurAmong.C (t_9_tp) (t_11) (some ⟨wt_9.heap.size, 0, none⟩) 5 (w.heap.size) (A0) (c0) (w.heap.size) _   (Lib.hid (own_cells Ot_11.out)) (Lib.hid (own_max Ot_11.out)) Kt_9 (Lib.hid (fun _ => Dt_11_t_6.out)) qt_12).mono ?_
  rintro e_t_12 wt_12 ⟨rfl, kt_12, gt_12⟩
  have Kt_12 := Lib.hid kt_12
  have Gt_12 : Hid (w_t_11.grownBy wt_12 (Value.slice (some ⟨w.heap.size, 0, none⟩) 1 1).ownBlock) := Lib.hid gt_12
  clear kt_12 gt_12
  have HBwt_12 := Lib.hid (Go.Proofs.YtfjcibkgbalkaaaDoor.GoC.below_cur HBw_t_11.out Gt_12.out HBw_t_11.out.size (Go.Proofs.YtfjcibkgbalkaaaDoor.GoC.cur_lt Kt_9.out).1)
  replace Ot_9 := Lib.hid (own_other Ot_9.out Gt_12.out (Apart.symm Dt_9_t_6.out))
  replace Ot_11 := Lib.hid (own_other Ot_11.out Gt_12.out (Apart.symm Dt_11_t_6.out))
  clear Kt_9 Gt_12
  replace H := let_hid H
  obtain ⟨t_14, ht_14, H⟩ := H
  obtain ⟨w_t_14, hw_t_14⟩ : ∃ x, wt_12.alloc (.cells #[.int .i64 0, .int .i64 0, .int .i64 5, .int .i64 10, .int .i64 11, .int .i64 10000] 3) = x := ⟨_, rfl⟩
  have bw_t_14 : Below wt_12.heap.size wt_12 w_t_14 := by rw [← hw_t_14]; exact (Below.refl _ _).alloc (Nat.le_refl _) _
  have hs_t_14 := HBwt_12.out.size
  have nt_14 : t_14.length = 6 := by rw [← ht_14]; rfl
  have Ot_14 : Hid (w_t_14.ownsRow w.heap.size 3 1 (.slice (some ⟨wt_12.heap.size, 0, none⟩) 6 6) 6 (Go.Proofs.YtfjcibkgbalkaaaDoor.HelpInt.iv t_14)) := by
    rw [← hw_t_14, ← ht_14]
    have e_ : ([.int .i64 0, .int .i64 0, .int .i64 5, .int .i64 10, .int .i64 11, .int .i64 10000] : List Value) = (Go.Proofs.YtfjcibkgbalkaaaDoor.HelpInt.iv ([0, 0, 5, 10, 11, 10000] : List Int)) := rfl
    exact Lib.hid (own_laid (n := 6) hs_t_14 e_ rfl (by unfold maxLen; omega))
  clear hs_t_14
  have hht_14 := Lib.hid ht_14
  clear ht_14
  replace nt_14 := Lib.hid nt_14
  have Dt_14_t_9 := Lib.hid (apart_fresh Ot_9.out)
  have Dt_14_t_11 := Lib.hid (apart_fresh Ot_11.out)
  have Dt_14_t_6 := Lib.hid (Go.Proofs.YtfjcibkgbalkaaaDoor.GoC.apart_cur Kt_12.out)
  have HBw_t_14 := Lib.hid (Below.step HBwt_12.out bw_t_14)
  replace Ot_9 := Lib.hid (own_below Ot_9.out bw_t_14)
  replace Ot_11 := Lib.hid (own_below Ot_11.out bw_t_14)
  replace Kt_12 := Lib.hid (Go.Proofs.YtfjcibkgbalkaaaDoor.GoC.cur_below Kt_12.out bw_t_14)
  clear bw_t_14
  replace H := bind2_hid H
  obtain ⟨t_15, t_15_tp, qt_15, H⟩ := H
  go_wp2_with fail
  have hc_ := nt_14.out
  have hv_ : (Value.slice (some ⟨wt_12.heap.size, 0, none⟩) 6 6 : Value) = Value.slice (some ⟨wt_12.heap.size, 0, none⟩) t_14.length 6 := by rw [hc_]
  try rw [hv_]
  replace Ot_14 := Lib.hid (own_len hc_ Ot_14.out)
  clear hc_ hv_
  go_wp2_with fail
  go_at_call 41
  refine (Go.Proofs.YtfjcibkgbalkaaaDoor.GsL1CurAmong.C (t_12_tp) (t_14) (some ⟨wt_12.heap.size, 0, none⟩) 6 (w.heap.size) (A0) (c0) (w.heap.size) _   (Lib.hid (own_cells Ot_14.out)) (Lib.hid (own_max Ot_14.out)) Kt_12 (Lib.hid (fun _ => Dt_14_t_6.out)) qt_15).mono ?_
  rintro e_t_15 wt_15 ⟨rfl, kt_15, gt_15⟩
  have Kt_15 := Lib.hid kt_15
  have Gt_15 : Hid (w_t_14.grownBy wt_15 (Value.slice (some ⟨w.heap.size, 0, none⟩) 1 1).ownBlock) := Lib.hid gt_15
  clear kt_15 gt_15
  have HBwt_15 := Lib.hid (Go.Proofs.YtfjcibkgbalkaaaDoor.GoC.below_cur HBw_t_14.out Gt_15.out HBw_t_14.out.size (Go.Proofs.YtfjcibkgbalkaaaDoor.GoC.cur_lt Kt_12.out).1)
  replace Ot_9 := Lib.hid (own_other Ot_9.out Gt_15.out (Apart.symm Dt_9_t_6.out))
  replace Ot_11 := Lib.hid (own_other Ot_11.out Gt_15.out (Apart.symm Dt_11_t_6.out))
  replace Ot_14 := Lib.hid (own_other Ot_14.out Gt_15.out (Apart.symm Dt_14_t_6.out))
  clear Kt_12 Gt_15
  replace H := let_hid H
  obtain ⟨t_17, ht_17, H⟩ := H
  obtain ⟨w_t_17, hw_t_17⟩ : ∃ x, wt_15.alloc (.cells #[.int .i64 10, .int .i64 20, .int .i64 40, .int .i64 60, .int .i64 9999, .int .i64 10000] 3) = x := ⟨_, rfl⟩
  have bw_t_17 : Below wt_15.heap.size wt_15 w_t_17 := by rw [← hw_t_17]; exact (Below.refl _ _).alloc (Nat.le_refl _) _
  have hs_t_17 := HBwt_15.out.size
  have nt_17 : t_17.length = 6 := by rw [← ht_17]; rfl
  have Ot_17 : Hid (w_t_17.ownsRow w.heap.size 3 1 (.slice (some ⟨wt_15.heap.size, 0, none⟩) 6 6) 6 (Go.Proofs.YtfjcibkgbalkaaaDoor.HelpInt.iv t_17)) := by
    rw [← hw_t_17, ← ht_17]
    have e_ : ([.int .i64 10, .int .i64 20, .int .i64 40, .int .i64 60, .int .i64 9999, .int .i64 10000] : List Value) = (Go.Proofs.YtfjcibkgbalkaaaDoor.HelpInt.iv ([10, 20, 40, 60, 9999, 10000] : List Int)) := rfl
    exact Lib.hid (own_laid (n := 6) hs_t_17 e_ rfl (by unfold maxLen; omega))
  clear hs_t_17
  have hht_17 := Lib.hid ht_17
  clear ht_17
  replace nt_17 := Lib.hid nt_17
  have Dt_17_t_9 := Lib.hid (apart_fresh Ot_9.out)
  have Dt_17_t_11 := Lib.hid (apart_fresh Ot_11.out)
  have Dt_17_t_14 := Lib.hid (apart_fresh Ot_14.out)
  have Dt_17_t_6 := Lib.hid (Go.Proofs.YtfjcibkgbalkaaaDoor.GoC.apart_cur Kt_15.out)
  have HBw_t_17 := Lib.hid (Below.step HBwt_15.out bw_t_17)
  replace Ot_9 := Lib.hid (own_below Ot_9.out bw_t_17)
  replace Ot_11 := Lib.hid (own_below Ot_11.out bw_t_17)
  replace Ot_14 := Lib.hid (own_below Ot_14.out bw_t_17)
  replace Kt_15 := Lib.hid (Go.Proofs.YtfjcibkgbalkaaaDoor.GoC.cur_below Kt_15.out bw_t_17)
  clear bw_t_17
  replace H := bind2_hid H
  obtain ⟨t_18, t_18_tp, qt_18, H⟩ := H
  go_wp2_with fail
  have hc_ := nt_17.out
  have hv_ : (Value.slice (some ⟨wt_15.heap.size, 0, none⟩) 6 6 : Value) = Value.slice (some ⟨wt_15.heap.size, 0, none⟩) t_17.length 6 := by rw [hc_]
  try rw [hv_]
  replace Ot_17 := Lib.hid (own_len hc_ Ot_17.out)
  clear hc_ hv_
  go_wp2_with fail
  go_at_call 41
  refine (Go.Proofs.YtfjcibkgbalkaaaDoor.GsL1CurAmong.C (t_15_tp) (t_17) (some ⟨wt_15.heap.size, 0, none⟩) 6 (w.heap.size) (A0) (c0) (w.heap.size) _   (Lib.hid (own_cells Ot_17.out)) (Lib.hid (own_max Ot_17.out)) Kt_15 (Lib.hid (fun _ => Dt_17_t_6.out)) qt_18).mono ?_
  rintro e_t_18 wt_18 ⟨rfl, kt_18, gt_18⟩
  have Kt_18 := Lib.hid kt_18
  have Gt_18 : Hid (w_t_17.grownBy wt_18 (Value.slice (some ⟨w.heap.size, 0, none⟩) 1 1).ownBlock) := Lib.hid gt_18
  clear kt_18 gt_18
  have HBwt_18 := Lib.hid (Go.Proofs.YtfjcibkgbalkaaaDoor.GoC.below_cur HBw_t_17.out Gt_18.out HBw_t_17.out.size (Go.Proofs.YtfjcibkgbalkaaaDoor.GoC.cur_lt Kt_15.out).1)
  replace Ot_9 := Lib.hid (own_other Ot_9.out Gt_18.out (Apart.symm Dt_9_t_6.out))
  replace Ot_11 := Lib.hid (own_other Ot_11.out Gt_18.out (Apart.symm Dt_11_t_6.out))
  replace Ot_14 := Lib.hid (own_other Ot_14.out Gt_18.out (Apart.symm Dt_14_t_6.out))
  replace Ot_17 := Lib.hid (own_other Ot_17.out Gt_18.out (Apart.symm Dt_17_t_6.out))
  clear Kt_15 Gt_18
  cases ret_hid H
  go_wp2_with fail
  (try simp only [Exit.inBlock, Exit.then]); refine bodyPost_ret (results_tmp4 rfl _ _ _) rfl ?_
  exact ⟨At_9, ct_9, rfl, Ot_9.out, HBwt_18.out⟩
end Go.Proofs.YtfjcibkgbalkaaaDoor.GsDrawReachedBy

/- loop.example/g01062/impl.ReachedBy as a plain function, and the contract of the program's: where the plain one has an answer, the program has it. Conditions: slices read as lists. -/
namespace Go.Proofs.YtfjcibkgbalkaaaDoor.GiReachedBy
set_option linter.unusedVariables false
set_option linter.unusedSimpArgs false
open Go.RowKit
open Go.Proofs.YtfjcibkgbalkaaaDoor.Rowed Go.Proofs.YtfjcibkgbalkaaaDoor.Turn Go.Proofs.YtfjcibkgbalkaaaDoor.Aid Go.Proofs.YtfjcibkgbalkaaaDoor.GoP Go.Proofs.YtfjcibkgbalkaaaDoor.GoM

def l0 (by_3 : Int) (t_25_x0 : Int) (t_25_x1 : Int) (t_25_x2 : Int) (t_25_x3 : Int) (t_25_x4 : Int) (t_25_x5 : Int) (t_25_x6 : Int) (t_25_x7 : Int) (t_25_x8 : Int) (t_25_x9 : Int) (k0 : Nat) (s : (List Int)) (nx0 bk0 : (List Int) → Option ((List Int) × Bool)) : Option ((List Int) × Bool) :=
  letK s fun reached_10l0 =>
  Option.bind (idx [t_25_x0, t_25_x1, t_25_x2, t_25_x3, t_25_x4, t_25_x5, t_25_x6, t_25_x7, t_25_x8, t_25_x9] (k0 : Int)) fun (yt_29 : Int) =>
  letK (decide (yt_29 ≤ by_3)) fun (t_34 : Bool) =>
  iteK t_34
  (guardK (reached_10l0.length ≤ 1099511627776) <|
  letK (reached_10l0 ++ [(k0 : Int)]) fun (t_38 : (List Int)) =>
  appK nx0 (t_38))
  (appK nx0 (reached_10l0))

def e0  (s : (List Int)) : Option ((List Int) × Bool) :=
  letK s fun reached_10l0 =>
  some (reached_10l0, true)

def P (list : (List Go.Proofs.YtfjcibkgbalkaaaDoor.PMail.Mail)) (from_1 : Int) (minute : Int) (by_3 : Int) : Option ((List Int) × Bool) :=
  Option.bind (Go.Proofs.YtfjcibkgbalkaaaDoor.GiCanBegin.P list from_1 minute) fun (t_5 : Bool) =>
  letK (!t_5) fun (t_6 : Bool) =>
  joinK (fun (t_11 : Bool) =>
  joinK (fun (t_16 : Bool) =>
  iteK t_16
  (some (([] : List Int), false))
  (Option.bind (Go.Proofs.YtfjcibkgbalkaaaDoor.GiEarliestMinutes.P list from_1 minute) fun (t_25 : Go.Proofs.YtfjcibkgbalkaaaDoor.PIntA10.IntA10) =>
  unIntA10 t_25 fun (t_25_x0 : Int) (t_25_x1 : Int) (t_25_x2 : Int) (t_25_x3 : Int) (t_25_x4 : Int) (t_25_x5 : Int) (t_25_x6 : Int) (t_25_x7 : Int) (t_25_x8 : Int) (t_25_x9 : Int) =>
  cntK (l0 by_3 t_25_x0 t_25_x1 t_25_x2 t_25_x3 t_25_x4 t_25_x5 t_25_x6 t_25_x7 t_25_x8 t_25_x9) (10) 0 (([] : List Int)) (e0 ))) fun jt_16 => iteK t_11 (appK jt_16 true) (letK (decide (by_3 < minute)) fun (t_15 : Bool) =>
  appK jt_16 t_15)) fun jt_11 => iteK t_6 (appK jt_11 true) (Option.bind (Go.Proofs.YtfjcibkgbalkaaaDoor.GiIsMinute.P by_3) fun (t_9 : Bool) =>
  letK (!t_9) fun (t_10 : Bool) =>
  appK jt_11 t_10)

set_option maxRecDepth 100000 in
set_option maxHeartbeats 2000000 in
theorem C (list : (List Go.Proofs.YtfjcibkgbalkaaaDoor.PMail.Mail)) (from_1 : Int) (minute : Int) (by_3 : Int) (A0 : Option Addr) (c0 : Nat)  (w : World) (M0 : Hid (Cells w 4 A0 list.length (Go.Proofs.YtfjcibkgbalkaaaDoor.PMail.flat list))) (N0 : Hid (list.length ≤ 9223372036854775807))  {r0 : (List Int)} {r1 : Bool} (H : Hid (P list from_1 minute by_3 = some (r0, r1))) :
    Calls Tryd.prog 33 #[.slice A0 list.length c0, .int .i64 from_1, .int .i64 minute, .int .i64 by_3] w (fun e w' => ∃ A_r0 c_r0, e = .returned (.tuple #[.slice A_r0 r0.length c_r0, .bool r1]) ∧ w'.ownsRow w.heap.size 3 1 (.slice A_r0 r0.length c_r0) r0.length (Go.Proofs.YtfjcibkgbalkaaaDoor.HelpInt.iv r0) ∧ Below w.heap.size w w') := by
  have HB := Lib.hid (Below.refl w.heap.size w)
  unfold P at H
  have N0o := N0.out
  obtain ⟨i0_3, hi_3, hz0_3, hz1_3, hz2_3⟩ := Aid.info_parts (P := Tryd.prog) (T := 3) (z := .int .i64 0) (s := 1) (b := 8) (by kernel_rfl)
  go_enter Tryd.func33, Tryd.ntmps33
  replace H := bind_hid H
  obtain ⟨t_5, qt_5, H⟩ := H
  go_wp2_with fail
  go_at_call 69
  refine (Go.Proofs.YtfjcibkgbalkaaaDoor.GiCanBegin.C (list) (from_1) (minute) A0 c0 _   (Lib.hid (Cells.below M0.out HB.out)) N0 qt_5).mono ?_
  rintro e_t_5 wt_5 ⟨rfl, bt_5⟩
  have HBwt_5 := Lib.hid (Below.step HB.out bt_5)
  clear bt_5
  cases t_5 with
  | false =>
    replace H := let_hid H
    obtain ⟨t_6, ht_6, H⟩ := H
    obtain rfl : t_6 = true := ht_6.symm
    replace H := join_hid H
    replace H := ite_t H
    replace H := app_hid H
    replace H := join_hid H
    replace H := ite_t H
    replace H := app_hid H
    replace H := ite_t H
    obtain ⟨w_t_17, hw_t_17⟩ : ∃ x, wt_5.alloc (.cells #[] 3) = x := ⟨_, rfl⟩
    have bw_t_17 : Below wt_5.heap.size wt_5 w_t_17 := by rw [← hw_t_17]; exact (Below.refl _ _).alloc (Nat.le_refl _) _
    have Ot_17 : Hid (w_t_17.ownsRow w.heap.size 3 1 (.slice (some ⟨wt_5.heap.size, 0, none⟩) 0 0) 0 []) := Lib.hid (by rw [← hw_t_17]; exact own_empty HBwt_5.out.size)
    have HBw_t_17 := Lib.hid (Below.step HBwt_5.out bw_t_17)
    clear bw_t_17
    cases ret_hid H
    go_wp2_with fail
    go_ret2
    exact ⟨(some ⟨wt_5.heap.size, 0, none⟩), 0, rfl, Ot_17.out, HBw_t_17.out⟩
  | true =>
    replace H := let_hid H
    obtain ⟨t_6, ht_6, H⟩ := H
    obtain rfl : t_6 = false := ht_6.symm
    replace H := join_hid H
    replace H := ite_f H
    replace H := bind_hid H
    obtain ⟨t_9, qt_9, H⟩ := H
    go_wp2_with fail
    go_at_call 64
    refine (Go.Proofs.YtfjcibkgbalkaaaDoor.GiIsMinute.C (by_3)  _    qt_9).mono ?_
    rintro e_t_9 wt_9 ⟨rfl, bt_9⟩
    have HBwt_9 := Lib.hid (Below.step HBwt_5.out bt_9)
    clear bt_9
    cases t_9 with
    | false =>
      replace H := let_hid H
      obtain ⟨t_10, ht_10, H⟩ := H
      obtain rfl : t_10 = true := ht_10.symm
      replace H := app_hid H
      replace H := join_hid H
      replace H := ite_t H
      replace H := app_hid H
      replace H := ite_t H
      obtain ⟨w_t_17, hw_t_17⟩ : ∃ x, wt_9.alloc (.cells #[] 3) = x := ⟨_, rfl⟩
      have bw_t_17 : Below wt_9.heap.size wt_9 w_t_17 := by rw [← hw_t_17]; exact (Below.refl _ _).alloc (Nat.le_refl _) _
      have Ot_17 : Hid (w_t_17.ownsRow w.heap.size 3 1 (.slice (some ⟨wt_9.heap.size, 0, none⟩) 0 0) 0 []) := Lib.hid (by rw [← hw_t_17]; exact own_empty HBwt_9.out.size)
      have HBw_t_17 := Lib.hid (Below.step HBwt_9.out bw_t_17)
      clear bw_t_17
      cases ret_hid H
      go_wp2_with fail
      go_ret2
      exact ⟨(some ⟨wt_9.heap.size, 0, none⟩), 0, rfl, Ot_17.out, HBw_t_17.out⟩
    | true =>
      replace H := let_hid H
      obtain ⟨t_10, ht_10, H⟩ := H
      obtain rfl : t_10 = false := ht_10.symm
      replace H := app_hid H
      replace H := join_hid H
      replace H := ite_f H
      replace H := let_hid H
      obtain ⟨t_15, ht_15, H⟩ := H
      replace H := app_hid H
      cases t_15 with
      | false =>
        replace H := ite_f H
        obtain ⟨w_t_20, hw_t_20⟩ : ∃ x, wt_9.alloc (.cells #[] 3) = x := ⟨_, rfl⟩
        have bw_t_20 : Below wt_9.heap.size wt_9 w_t_20 := by rw [← hw_t_20]; exact (Below.refl _ _).alloc (Nat.le_refl _) _
        have Ot_20 : Hid (w_t_20.ownsRow w.heap.size 3 1 (.slice (some ⟨wt_9.heap.size, 0, none⟩) 0 0) 0 []) := Lib.hid (by rw [← hw_t_20]; exact own_empty HBwt_9.out.size)
        have HBw_t_20 := Lib.hid (Below.step HBwt_9.out bw_t_20)
        clear bw_t_20
        replace H := bind_hid H
        obtain ⟨t_25, qt_25, H⟩ := H
        obtain ⟨t_25_x0, t_25_x1, t_25_x2, t_25_x3, t_25_x4, t_25_x5, t_25_x6, t_25_x7, t_25_x8, t_25_x9⟩ := t_25
        replace H := unIntA10_hid H
        go_wp2_with fail
        go_at_call 70
        refine (Go.Proofs.YtfjcibkgbalkaaaDoor.GiEarliestMinutes.C (list) (from_1) (minute) A0 c0 _   (Lib.hid (Cells.below M0.out HBw_t_20.out)) N0 qt_25).mono ?_
        rintro e_t_25 wt_25 ⟨rfl, bt_25⟩
        unfold Go.Proofs.YtfjcibkgbalkaaaDoor.PIntA10.IntA10.val
        have HBwt_25 := Lib.hid (Below.step HBw_t_20.out bt_25)
        replace Ot_20 := Lib.hid (own_below Ot_20.out bt_25)
        clear bt_25
        go_wp2_with fail
        go_loopg [34, 10] (10) (fun m_ v34_ v10_ wr => ∃ (k0 : Nat) (reached_10l0 : (List Int)) (Areached_10l0 : Option Addr) (creached_10l0 : Nat), k0 + m_ = 10 ∧ v34_ = .int .i64 (k0 : Int) ∧ v10_ = .slice Areached_10l0 reached_10l0.length creached_10l0 ∧ Hid (cntK (l0 by_3 t_25_x0 t_25_x1 t_25_x2 t_25_x3 t_25_x4 t_25_x5 t_25_x6 t_25_x7 t_25_x8 t_25_x9) m_ k0 (reached_10l0) (e0 ) = some (r0, r1)) ∧ Hid (Below w.heap.size w wr) ∧ Hid (wr.ownsRow w.heap.size 3 1 (.slice Areached_10l0 reached_10l0.length creached_10l0) reached_10l0.length (Go.Proofs.YtfjcibkgbalkaaaDoor.HelpInt.iv reached_10l0)))
        case atStart => exact ⟨0, _, _, _, by omega, rfl, rfl, H, HBwt_25, Ot_20⟩
        case round =>
          obtain ⟨k0, reached_10l0, Areached_10l0, creached_10l0, hkm0, rfl, rfl, H, HBwr0, Oreached_10l0⟩ := hrel
          rename World => wr0
          cases gk with
          | zero =>
            obtain rfl : k0 = 10 := by omega
            have hc0 : decide (((10 : Nat) : Int) < ((10 : Nat) : Int)) = false := by simp
            replace H := cnt_zero H
            unfold e0 at H
            replace H := let_hid H
            obtain ⟨_, rfl, H⟩ := H
            cases ret_hid H
            go_wp2_with fail
            go_ret2
            exact ⟨Areached_10l0, creached_10l0, rfl, Oreached_10l0.out, HBwr0.out⟩
          | succ m0 =>
            have hlt0 : k0 < 10 := by omega
            have hc0 : decide ((k0 : Int) < ((10 : Nat) : Int)) = true := by simp; omega
            replace H := cnt_succ H
            have hd0 : decide ((k0 : Int) < 10) = true := by simp; omega
            unfold l0 at H
            replace H := let_hid H
            obtain ⟨_, rfl, H⟩ := H
            replace H := idx_hid H
            obtain ⟨nt_29, yt_29, et_29, lt_29, gt_29, H⟩ := H
            obtain rfl : k0 = nt_29 := by omega
            clear et_29
            have it_29 : ∀ w, (Instr.index 78 (.agg #[.int .i64 t_25_x0, .int .i64 t_25_x1, .int .i64 t_25_x2, .int .i64 t_25_x3, .int .i64 t_25_x4, .int .i64 t_25_x5, .int .i64 t_25_x6, .int .i64 t_25_x7, .int .i64 t_25_x8, .int .i64 t_25_x9]) (.int .i64 (k0 : Int))).run Tryd.prog w = .ok (.int .i64 yt_29) w := by
              intro w
              have hl := lt_29
              have hg := gt_29.out
              clear gt_29 H
              rcases k0 with _ | _ | _ | _ | _ | _ | _ | _ | _ | _ | _
              · obtain rfl := Option.some.inj hg; rfl
              · obtain rfl := Option.some.inj hg; rfl
              · obtain rfl := Option.some.inj hg; rfl
              · obtain rfl := Option.some.inj hg; rfl
              · obtain rfl := Option.some.inj hg; rfl
              · obtain rfl := Option.some.inj hg; rfl
              · obtain rfl := Option.some.inj hg; rfl
              · obtain rfl := Option.some.inj hg; rfl
              · obtain rfl := Option.some.inj hg; rfl
              · obtain rfl := Option.some.inj hg; rfl
              · simp at hl; omega
            replace H := let_hid H
            obtain ⟨t_34, ht_34, H⟩ := H
            cases t_34 with
            | false =>
              replace H := ite_f H
              replace H := app_hid H
              go_wp2_with fail
              go_roundg m0
              case measure => omega
              case rel => exact ⟨k0 + 1, _, _, _, by omega, by go_num, rfl, H, HBwr0, Oreached_10l0⟩
            | true =>
              replace H := ite_t H
              obtain ⟨w_t_37, hw_t_37⟩ : ∃ x, wr0.alloc (.cells #[.int .i64 (k0 : Int)] 3) = x := ⟨_, rfl⟩
              have bw_t_37 : Below wr0.heap.size wr0 w_t_37 := by rw [← hw_t_37]; exact (Below.refl _ _).alloc (Nat.le_refl _) _
              have HBw_t_37 := Lib.hid (Below.step HBwr0.out bw_t_37)
              replace Oreached_10l0 := Lib.hid (own_below Oreached_10l0.out bw_t_37)
              clear bw_t_37
              replace H := guard_hid H
              obtain ⟨hlt_38, H⟩ := H
              replace H := let_hid H
              obtain ⟨t_38, ht_38, H⟩ := H
              have hht_38 := Lib.hid ht_38
              clear ht_38
              have hst_38 := HBw_t_37.out.size
              go_wp2_with (at_builtin; refine wpList_append_own_at _ rfl _ _ 49 rfl w.heap.size 3 i0_3 (.int .i64 0) 1 8 Tryd.underlying49 hi_3 hz0_3 hz1_3 hz2_3 rfl (by decide) _ _ _ rfl Oreached_10l0.out ⟨wr0.heap.size, 0, none⟩ 1 1 [.int .i64 (k0 : Int)] rfl rfl (news_new hw_t_37) (one_cells rfl) (by unfold maxLen; omega) (by omega) hst_38 ?_; intro vt_38 wt_38 ot_38 gt_38 zt_38 yt_38; clear zt_38; obtain ⟨qt_38, ct_38, rfl, pt_38⟩ := own_push hht_38.out (Go.Proofs.YtfjcibkgbalkaaaDoor.HelpInt.iv_snoc _ _) rfl ot_38; have Pt_38 := Lib.hid pt_38; have Yt_38 := Lib.hid yt_38; have Gt_38 := Lib.hid gt_38; clear ot_38 gt_38 pt_38 yt_38; refine stop_in ?_)
              refine stop_out ?_
              have HBwt_38 := Lib.hid (HBw_t_37.out.grown Gt_38.out hst_38 (fun q hq => (Oreached_10l0.out.lt q hq).1))
              clear hst_38
              clear Oreached_10l0 Yt_38 Gt_38
              replace H := app_hid H
              go_wp2_with fail
              go_roundg m0
              case measure => omega
              case rel => exact ⟨k0 + 1, _, _, _, by omega, by go_num, rfl, H, HBwt_38, Pt_38⟩
      | true =>
        replace H := ite_t H
        obtain ⟨w_t_17, hw_t_17⟩ : ∃ x, wt_9.alloc (.cells #[] 3) = x := ⟨_, rfl⟩
        have bw_t_17 : Below wt_9.heap.size wt_9 w_t_17 := by rw [← hw_t_17]; exact (Below.refl _ _).alloc (Nat.le_refl _) _
        have Ot_17 : Hid (w_t_17.ownsRow w.heap.size 3 1 (.slice (some ⟨wt_9.heap.size, 0, none⟩) 0 0) 0 []) := Lib.hid (by rw [← hw_t_17]; exact own_empty HBwt_9.out.size)
        have HBw_t_17 := Lib.hid (Below.step HBwt_9.out bw_t_17)
        clear bw_t_17
        cases ret_hid H
        go_wp2_with fail
        go_ret2
        exact ⟨(some ⟨wt_9.heap.size, 0, none⟩), 0, rfl, Ot_17.out, HBw_t_17.out⟩
end Go.Proofs.YtfjcibkgbalkaaaDoor.GiReachedBy

/- loop.example/g01062/spec.ReachedBy as a plain function, and the contract of the program's: where the plain one has an answer, the program has it. Conditions: slices read as lists. -/
namespace Go.Proofs.YtfjcibkgbalkaaaDoor.GsReachedBy
set_option linter.unusedVariables false
set_option linter.unusedSimpArgs false
open Go.RowKit
open Go.Proofs.YtfjcibkgbalkaaaDoor.Rowed Go.Proofs.YtfjcibkgbalkaaaDoor.Turn Go.Proofs.YtfjcibkgbalkaaaDoor.Aid Go.Proofs.YtfjcibkgbalkaaaDoor.GoP Go.Proofs.YtfjcibkgbalkaaaDoor.GoM

def l0 (by_3 : Int) (t_21 : (List Int)) (k0 : Nat) (s : (List Int)) (nx0 bk0 : (List Int) → Option ((List Int) × Bool)) : Option ((List Int) × Bool) :=
  letK s fun out_10l0 =>
  Option.bind (idx t_21 (k0 : Int)) fun (yt_28 : Int) =>
  letK (decide (yt_28 ≤ by_3)) fun (t_31 : Bool) =>
  iteK t_31
  (guardK (out_10l0.length ≤ 1099511627776) <|
  letK (out_10l0 ++ [(k0 : Int)]) fun (t_35 : (List Int)) =>
  appK nx0 (t_35))
  (appK nx0 (out_10l0))

def e0  (s : (List Int)) : Option ((List Int) × Bool) :=
  letK s fun out_10l0 =>
  some (out_10l0, true)

def P (list : (List Go.Proofs.YtfjcibkgbalkaaaDoor.PMail.Mail)) (from_1 : Int) (minute : Int) (by_3 : Int) : Option ((List Int) × Bool) :=
  Option.bind (Go.Proofs.YtfjcibkgbalkaaaDoor.GsL9Asked.P list from_1 minute) fun (t_7 : Bool) =>
  letK (!t_7) fun (t_8 : Bool) =>
  joinK (fun (t_14 : Bool) =>
  iteK t_14
  (some (([] : List Int), false))
  (Option.bind (Go.Proofs.YtfjcibkgbalkaaaDoor.GsL9Times.P list from_1 minute) fun (t_21 : (List Int)) =>
  cntK (l0 by_3 t_21) (10) 0 (([] : List Int)) (e0 ))) fun jt_14 => iteK t_8 (appK jt_14 true) (Option.bind (Go.Proofs.YtfjcibkgbalkaaaDoor.GsL1In.P by_3 minute 9999) fun (t_12 : Bool) =>
  letK (!t_12) fun (t_13 : Bool) =>
  appK jt_14 t_13)

set_option maxRecDepth 100000 in
set_option maxHeartbeats 2000000 in
theorem C (list : (List Go.Proofs.YtfjcibkgbalkaaaDoor.PMail.Mail)) (from_1 : Int) (minute : Int) (by_3 : Int) (A0 : Option Addr) (c0 : Nat)  (w : World) (M0 : Hid (Cells w 4 A0 list.length (Go.Proofs.YtfjcibkgbalkaaaDoor.PMail.flat list))) (N0 : Hid (list.length ≤ 9223372036854775807))  {r0 : (List Int)} {r1 : Bool} (H : Hid (P list from_1 minute by_3 = some (r0, r1))) :
    Calls Tryd.prog 34 #[.slice A0 list.length c0, .int .i64 from_1, .int .i64 minute, .int .i64 by_3] w (fun e w' => ∃ A_r0 c_r0, e = .returned (.tuple #[.slice A_r0 r0.length c_r0, .bool r1]) ∧ w'.ownsRow w.heap.size 3 1 (.slice A_r0 r0.length c_r0) r0.length (Go.Proofs.YtfjcibkgbalkaaaDoor.HelpInt.iv r0) ∧ Below w.heap.size w w') := by
  have HB := Lib.hid (Below.refl w.heap.size w)
  unfold P at H
  have N0o := N0.out
  obtain ⟨i0_3, hi_3, hz0_3, hz1_3, hz2_3⟩ := Aid.info_parts (P := Tryd.prog) (T := 3) (z := .int .i64 0) (s := 1) (b := 8) (by kernel_rfl)
  go_enter Tryd.func34, Tryd.ntmps34
  obtain ⟨w_t_2, hw_t_2⟩ : ∃ x, w.alloc (.cells #[] 3) = x := ⟨_, rfl⟩
  have bw_t_2 : Below w.heap.size w w_t_2 := by rw [← hw_t_2]; exact (Below.refl _ _).alloc (Nat.le_refl _) _
  have Ot_2 : Hid (w_t_2.ownsRow w.heap.size 3 1 (.slice (some ⟨w.heap.size, 0, none⟩) 0 0) 0 []) := Lib.hid (by rw [← hw_t_2]; exact own_empty HB.out.size)
  have HBw_t_2 := Lib.hid (Below.step HB.out bw_t_2)
  clear bw_t_2
  replace H := bind_hid H
  obtain ⟨t_7, qt_7, H⟩ := H
  go_wp2_with fail
  go_at_call 66
  refine (Go.Proofs.YtfjcibkgbalkaaaDoor.GsL9Asked.C (list) (from_1) (minute) A0 c0 _   (Lib.hid (Cells.below M0.out HBw_t_2.out)) N0 qt_7).mono ?_
  rintro e_t_7 wt_7 ⟨rfl, bt_7⟩
  have HBwt_7 := Lib.hid (Below.step HBw_t_2.out bt_7)
  replace Ot_2 := Lib.hid (own_below Ot_2.out bt_7)
  clear bt_7
  cases t_7 with
  | false =>
    replace H := let_hid H
    obtain ⟨t_8, ht_8, H⟩ := H
    obtain rfl : t_8 = true := ht_8.symm
    replace H := join_hid H
    replace H := ite_t H
    replace H := app_hid H
    replace H := ite_t H
    cases ret_hid H
    go_wp2_with fail
    go_ret2
    exact ⟨(some ⟨w.heap.size, 0, none⟩), 0, rfl, Ot_2.out, HBwt_7.out⟩
  | true =>
    replace H := let_hid H
    obtain ⟨t_8, ht_8, H⟩ := H
    obtain rfl : t_8 = false := ht_8.symm
    replace H := join_hid H
    replace H := ite_f H
    replace H := bind_hid H
    obtain ⟨t_12, qt_12, H⟩ := H
    go_wp2_with fail
    go_at_call 71
    refine (Go.Proofs.YtfjcibkgbalkaaaDoor.GsL1In.C (by_3) (minute) (9999)  _    qt_12).mono ?_
    rintro e_t_12 wt_12 ⟨rfl, bt_12⟩
    have HBwt_12 := Lib.hid (Below.step HBwt_7.out bt_12)
    replace Ot_2 := Lib.hid (own_below Ot_2.out bt_12)
    clear bt_12
    cases t_12 with
    | false =>
      replace H := let_hid H
      obtain ⟨t_13, ht_13, H⟩ := H
      obtain rfl : t_13 = true := ht_13.symm
      replace H := app_hid H
      replace H := ite_t H
      cases ret_hid H
      go_wp2_with fail
      go_ret2
      exact ⟨(some ⟨w.heap.size, 0, none⟩), 0, rfl, Ot_2.out, HBwt_12.out⟩
    | true =>
      replace H := let_hid H
      obtain ⟨t_13, ht_13, H⟩ := H
      obtain rfl : t_13 = false := ht_13.symm
      replace H := app_hid H
      replace H := ite_f H
      replace H := bind_hid H
      obtain ⟨t_21, qt_21, H⟩ := H
      go_wp2_with fail
      go_at_call 68
      refine (Go.Proofs.YtfjcibkgbalkaaaDoor.GsL9Times.C (list) (from_1) (minute) A0 c0 _   (Lib.hid (Cells.below M0.out HBwt_12.out)) N0 qt_21).mono ?_
      rintro e_t_21 wt_21 ⟨At_21, ct_21, rfl, ot_21, bt_21⟩
      have Dt_21_t_2 := Lib.hid (apart_call ot_21 Ot_2.out)
      have Ot_21 := Lib.hid (own_lower ot_21 HBwt_12.out.size)
      clear ot_21
      have HBwt_21 := Lib.hid (Below.step HBwt_12.out bt_21)
      replace Ot_2 := Lib.hid (own_below Ot_2.out bt_21)
      clear bt_21
      go_wp2_with fail
      go_loopg [12, 10] (10) (fun m_ v12_ v10_ wr => ∃ (k0 : Nat) (out_10l0 : (List Int)) (Aout_10l0 : Option Addr) (cout_10l0 : Nat), k0 + m_ = 10 ∧ v12_ = .int .i64 (k0 : Int) ∧ v10_ = .slice Aout_10l0 out_10l0.length cout_10l0 ∧ Hid (cntK (l0 by_3 t_21) m_ k0 (out_10l0) (e0 ) = some (r0, r1)) ∧ Hid (Below w.heap.size w wr) ∧ Hid (wr.ownsRow w.heap.size 3 1 (.slice Aout_10l0 out_10l0.length cout_10l0) out_10l0.length (Go.Proofs.YtfjcibkgbalkaaaDoor.HelpInt.iv out_10l0)) ∧ Hid (wr.ownsRow w.heap.size 3 1 (.slice At_21 t_21.length ct_21) t_21.length (Go.Proofs.YtfjcibkgbalkaaaDoor.HelpInt.iv t_21)) ∧ Hid (Apart Aout_10l0 At_21))
      case atStart => exact ⟨0, _, _, _, by omega, rfl, rfl, H, HBwt_21, Ot_2, Ot_21, Lib.hid (Apart.symm Dt_21_t_2.out)⟩
      case round =>
        obtain ⟨k0, out_10l0, Aout_10l0, cout_10l0, hkm0, rfl, rfl, H, HBwr0, Oout_10l0, Ot_21, Dout_10l0_t_21⟩ := hrel
        rename World => wr0
        cases gk with
        | zero =>
          obtain rfl : k0 = 10 := by omega
          have hc0 : decide (((10 : Nat) : Int) < ((10 : Nat) : Int)) = false := by simp
          replace H := cnt_zero H
          unfold e0 at H
          replace H := let_hid H
          obtain ⟨_, rfl, H⟩ := H
          cases ret_hid H
          go_wp2_with fail
          go_ret2
          exact ⟨Aout_10l0, cout_10l0, rfl, Oout_10l0.out, HBwr0.out⟩
        | succ m0 =>
          have hlt0 : k0 < 10 := by omega
          have hc0 : decide ((k0 : Int) < ((10 : Nat) : Int)) = true := by simp; omega
          replace H := cnt_succ H
          have hd0 : decide ((k0 : Int) < 10) = true := by simp; omega
          unfold l0 at H
          replace H := let_hid H
          obtain ⟨_, rfl, H⟩ := H
          replace H := idx_hid H
          obtain ⟨nt_28, yt_28, et_28, lt_28, gt_28, H⟩ := H
          obtain rfl : k0 = nt_28 := by omega
          clear et_28
          obtain ⟨qt_28, Qt_28⟩ := own_some Ot_21.out (by omega)
          subst Qt_28
          obtain ⟨ab_t_28, ao_t_28, zt_28, At_28, z_t_28, ct_28_0⟩ := Go.Proofs.YtfjcibkgbalkaaaDoor.HelpInt.Ints.at_ (own_cells Ot_21.out) (k := k0) (by omega)
          obtain rfl := Option.some.inj (gt_28.out.symm.trans z_t_28)
          simp only [Option.some.injEq, Addr.mk.injEq] at At_28
          obtain ⟨rfl, rfl, _⟩ := At_28
          clear z_t_28
          simp only [Nat.zero_add] at ct_28_0
          have b0t_28 : (0 : Int) ≤ (k0 : Int) := by omega
          have b1t_28 : (k0 : Int) < ((t_21.length : Nat) : Int) := by omega
          have b2t_28 : ((k0 : Int)).toNat = k0 := by omega
          replace H := let_hid H
          obtain ⟨t_31, ht_31, H⟩ := H
          cases t_31 with
          | false =>
            replace H := ite_f H
            replace H := app_hid H
            go_wp2_with fail
            go_roundg m0
            case measure => omega
            case rel => exact ⟨k0 + 1, _, _, _, by omega, by go_num, rfl, H, HBwr0, Oout_10l0, Ot_21, Lib.hid Dout_10l0_t_21.out⟩
          | true =>
            replace H := ite_t H
            obtain ⟨w_t_34, hw_t_34⟩ : ∃ x, wr0.alloc (.cells #[.int .i64 (k0 : Int)] 3) = x := ⟨_, rfl⟩
            have bw_t_34 : Below wr0.heap.size wr0 w_t_34 := by rw [← hw_t_34]; exact (Below.refl _ _).alloc (Nat.le_refl _) _
            have HBw_t_34 := Lib.hid (Below.step HBwr0.out bw_t_34)
            have ct_28_0__349 := cell_below bw_t_34 ct_28_0
            replace Ot_21 := Lib.hid (own_below Ot_21.out bw_t_34)
            replace Oout_10l0 := Lib.hid (own_below Oout_10l0.out bw_t_34)
            clear bw_t_34
            replace H := guard_hid H
            obtain ⟨hlt_35, H⟩ := H
            replace H := let_hid H
            obtain ⟨t_35, ht_35, H⟩ := H
            have hht_35 := Lib.hid ht_35
            clear ht_35
            have hst_35 := HBw_t_34.out.size
            go_wp2_with (at_builtin; refine wpList_append_own_at _ rfl _ _ 49 rfl w.heap.size 3 i0_3 (.int .i64 0) 1 8 Tryd.underlying49 hi_3 hz0_3 hz1_3 hz2_3 rfl (by decide) _ _ _ rfl Oout_10l0.out ⟨wr0.heap.size, 0, none⟩ 1 1 [.int .i64 (k0 : Int)] rfl rfl (news_new hw_t_34) (one_cells rfl) (by unfold maxLen; omega) (by omega) hst_35 ?_; intro vt_35 wt_35 ot_35 gt_35 zt_35 yt_35; clear zt_35; obtain ⟨qt_35, ct_35, rfl, pt_35⟩ := own_push hht_35.out (Go.Proofs.YtfjcibkgbalkaaaDoor.HelpInt.iv_snoc _ _) rfl ot_35; have Pt_35 := Lib.hid pt_35; have Yt_35 := Lib.hid yt_35; have Gt_35 := Lib.hid gt_35; clear ot_35 gt_35 pt_35 yt_35; refine stop_in ?_)
            refine stop_out ?_
            have HBwt_35 := Lib.hid (HBw_t_34.out.grown Gt_35.out hst_35 (fun q hq => (Oout_10l0.out.lt q hq).1))
            clear hst_35
            have Dt_35_t_21 : Hid (Apart (some ⟨qt_35, 0, none⟩) _) := Lib.hid (apart_app Dout_10l0_t_21.out (fun a_ ha_ => (own_lt Ot_21.out a_ ha_).2) Yt_35.out)
            replace ct_28_0__349 := cell_other ct_28_0__349 Gt_35.out Dout_10l0_t_21.out
            replace Ot_21 := Lib.hid (own_other Ot_21.out Gt_35.out Dout_10l0_t_21.out)
            clear ct_28_0
            clear Oout_10l0 Yt_35 Gt_35
            replace H := app_hid H
            go_wp2_with fail
            go_roundg m0
            case measure => omega
            case rel => exact ⟨k0 + 1, _, _, _, by omega, by go_num, rfl, H, HBwt_35, Pt_35, Ot_21, Lib.hid Dt_35_t_21.out⟩
end Go.Proofs.YtfjcibkgbalkaaaDoor.GsReachedBy

/- loop.example/g01062/laws.vHas as a plain function, and the contract of the program's: where the plain one has an answer, the program has it. Conditions: slices read as lists. -/
namespace Go.Proofs.YtfjcibkgbalkaaaDoor.GlVHas
set_option linter.unusedVariables false
set_option linter.unusedSimpArgs false
open Go.RowKit
open Go.Proofs.YtfjcibkgbalkaaaDoor.Rowed Go.Proofs.YtfjcibkgbalkaaaDoor.Turn Go.Proofs.YtfjcibkgbalkaaaDoor.Aid Go.Proofs.YtfjcibkgbalkaaaDoor.GoP Go.Proofs.YtfjcibkgbalkaaaDoor.GoM

def l0 (l : (List Int)) (x : Int) (k0 : Nat) (s : Unit) (nx0 bk0 : Unit → Option (Bool)) : Option (Bool) :=
  
  Option.bind (idx l (k0 : Int)) fun (yt_8 : Int) =>
  letK (yt_8 == x) fun (t_11 : Bool) =>
  iteK t_11
  (some true)
  (appK nx0 ())

def e0  (s : Unit) : Option (Bool) :=
  
  some false

def P (l : (List Int)) (x : Int) : Option (Bool) :=
  cntK (l0 l x) (l.length) 0 () (e0 )

set_option maxRecDepth 100000 in
set_option maxHeartbeats 2000000 in
theorem C (l : (List Int)) (x : Int) (A0 : Option Addr) (c0 : Nat)  (w : World) (M0 : Hid (Cells w 1 A0 l.length (Go.Proofs.YtfjcibkgbalkaaaDoor.HelpInt.iv l))) (N0 : Hid (l.length ≤ 9223372036854775807))  {r : Bool} (H : Hid (P l x = some r)) :
    Calls Tryd.prog 35 #[.slice A0 l.length c0, .int .i64 x] w (Gives (.bool r) w) := by
  have HB := Lib.hid (Below.refl w.heap.size w)
  unfold P at H
  have N0o := N0.out
  go_enter Tryd.func35, Tryd.ntmps35
  go_wp2_with fail
  go_loopg [5] (l.length) (fun m_ v5_ wr => ∃ (k0 : Nat) , k0 + m_ = l.length ∧ v5_ = .int .i64 (k0 : Int) ∧ Hid (cntK (l0 l x) m_ k0 () (e0 ) = some r) ∧ Hid (Below w.heap.size w wr))
  case atStart => exact ⟨0, by omega, rfl, H, HB⟩
  case round =>
    obtain ⟨k0, hkm0, rfl, H, HBwr0⟩ := hrel
    rename World => wr0
    cases gk with
    | zero =>
      obtain rfl : k0 = l.length := by omega
      have hc0 : decide (((l.length : Nat) : Int) < ((l.length : Nat) : Int)) = false := by simp
      replace H := cnt_zero H
      unfold e0 at H
      obtain rfl := ret_hid H
      go_wp2_with fail
      go_ret
      exact ⟨rfl, HBwr0.out⟩
    | succ m0 =>
      have hlt0 : k0 < l.length := by omega
      have hc0 : decide ((k0 : Int) < ((l.length : Nat) : Int)) = true := by simp; omega
      replace H := cnt_succ H
      unfold l0 at H
      replace H := idx_hid H
      obtain ⟨nt_8, yt_8, et_8, lt_8, gt_8, H⟩ := H
      obtain rfl : k0 = nt_8 := by omega
      clear et_8
      obtain ⟨ab_t_8, ao_t_8, zt_8, At_8, z_t_8, ct_8_0⟩ := Go.Proofs.YtfjcibkgbalkaaaDoor.HelpInt.Ints.at_ M0.out lt_8
      obtain rfl := Option.some.inj (gt_8.out.symm.trans z_t_8)
      subst At_8
      have ltt_8 := cell_lt ct_8_0
      replace ct_8_0 := cell_below HBwr0.out ct_8_0
      clear z_t_8
      have b0t_8 : (0 : Int) ≤ (k0 : Int) := by omega
      have b1t_8 : (k0 : Int) < ((l.length : Nat) : Int) := by omega
      have b2t_8 : ((k0 : Int)).toNat = k0 := by omega
      replace H := let_hid H
      obtain ⟨t_11, ht_11, H⟩ := H
      cases t_11 with
      | false =>
        replace H := ite_f H
        replace H := app_hid H
        go_wp2_with fail
        go_roundg m0
        case measure => omega
        case rel => exact ⟨k0 + 1, by omega, by go_num, H, HBwr0⟩
      | true =>
        replace H := ite_t H
        obtain rfl := ret_hid H
        go_wp2_with fail
        go_ret
        exact ⟨rfl, HBwr0.out⟩
end Go.Proofs.YtfjcibkgbalkaaaDoor.GlVHas

/- loop.example/g01062/spec.DrawMailText as a plain function, and the contract of the program's: where the plain one has an answer, the program has it. Conditions: slices read as lists. -/
namespace Go.Proofs.YtfjcibkgbalkaaaDoor.GsDrawMailText
set_option linter.unusedVariables false
set_option linter.unusedSimpArgs false
open Go.RowKit
open Go.Proofs.YtfjcibkgbalkaaaDoor.Rowed Go.Proofs.YtfjcibkgbalkaaaDoor.Turn Go.Proofs.YtfjcibkgbalkaaaDoor.Aid Go.Proofs.YtfjcibkgbalkaaaDoor.GoP Go.Proofs.YtfjcibkgbalkaaaDoor.GoM

def P (tapes : List Int → Go.Proofs.YtfjcibkgbalkaaaDoor.GoC.Tape) (code : (List Int)) : Option (Go.Proofs.YtfjcibkgbalkaaaDoor.PMail.Mail) :=
  letK (tapes code) fun (t_3 : Go.Proofs.YtfjcibkgbalkaaaDoor.GoC.Tape) =>
  bind2 (Go.Proofs.YtfjcibkgbalkaaaDoor.GsL1CurMail.P t_3) fun (t_6 : Go.Proofs.YtfjcibkgbalkaaaDoor.PMail.Mail) (t_6_tp : Go.Proofs.YtfjcibkgbalkaaaDoor.GoC.Tape) =>
  unMail t_6 fun (t_6_leave : Int) (t_6_from_ : Int) (t_6_to_ : Int) (t_6_arrive : Int) =>
  some (Go.Proofs.YtfjcibkgbalkaaaDoor.PMail.Mail.mk t_6_leave t_6_from_ t_6_to_ t_6_arrive)

set_option maxRecDepth 100000 in
set_option maxHeartbeats 2000000 in
theorem C (tapes : List Int → Go.Proofs.YtfjcibkgbalkaaaDoor.GoC.Tape) (code : (List Int)) (A0 : Option Addr) (c0 : Nat)  (w : World) (HE : Hid (Go.Proofs.YtfjcibkgbalkaaaDoor.GoC.Tells tapes)) (M0 : Hid (Cells w 1 A0 code.length (Go.Proofs.YtfjcibkgbalkaaaDoor.GoC.u8s code))) (N0 : Hid (code.length ≤ 9223372036854775807)) (V0 : Hid (∀ z ∈ code, 0 ≤ z ∧ z ≤ 255))  {r : Go.Proofs.YtfjcibkgbalkaaaDoor.PMail.Mail} (H : Hid (P tapes code = some r)) :
    Calls Tryd.prog 36 #[.slice A0 code.length c0] w (Gives ((Go.Proofs.YtfjcibkgbalkaaaDoor.PMail.Mail.val r)) w) := by
  have HB := Lib.hid (Below.refl w.heap.size w)
  unfold P at H
  have N0o := N0.out
  go_enter Tryd.func36, Tryd.ntmps36
  obtain ⟨w_t_0, hw_t_0⟩ : ∃ x, w.alloc (.cells #[.int .i64 0, .int .i64 0, .int .i64 0, .int .i64 0] 54) = x := ⟨_, rfl⟩
  have bw_t_0 : Below w.heap.size w w_t_0 := by rw [← hw_t_0]; exact (Below.refl _ _).alloc (Nat.le_refl _) _
  have HBw_t_0 := Lib.hid (Below.step HB.out bw_t_0)
  clear bw_t_0
  have kt_0_0 : w_t_0.cell? ⟨w.heap.size, 0, none⟩ = some (.int .i64 0) := by rw [← hw_t_0]; exact box_new _ _ _ 0 _ rfl
  have kt_0_1 : w_t_0.cell? ⟨w.heap.size, 1, none⟩ = some (.int .i64 0) := by rw [← hw_t_0]; exact box_new _ _ _ 1 _ rfl
  have kt_0_2 : w_t_0.cell? ⟨w.heap.size, 2, none⟩ = some (.int .i64 0) := by rw [← hw_t_0]; exact box_new _ _ _ 2 _ rfl
  have kt_0_3 : w_t_0.cell? ⟨w.heap.size, 3, none⟩ = some (.int .i64 0) := by rw [← hw_t_0]; exact box_new _ _ _ 3 _ rfl
  have Ot_0 : Hid (w_t_0.ownsRow w.heap.size 54 4 (.slice (some ⟨w.heap.size, 0, none⟩) 1 1) 1 [.int .i64 0, .int .i64 0, .int .i64 0, .int .i64 0]) := Lib.hid (by rw [← hw_t_0]; exact own_laid (n := 1) HB.out.size rfl rfl (by unfold maxLen; omega))
  replace H := let_hid H
  obtain ⟨t_3, ht_3, H⟩ := H
  obtain ⟨w_t_3, hw_t_3⟩ : ∃ x, w_t_0.alloc (.cells #[.slice A0 code.length c0, .int .i64 0, .int .u64 0] 65) = x := ⟨_, rfl⟩
  have bw_t_3 : Below w_t_0.heap.size w_t_0 w_t_3 := by rw [← hw_t_3]; exact (Below.refl _ _).alloc (Nat.le_refl _) _
  have Kt_3 : Hid (Go.Proofs.YtfjcibkgbalkaaaDoor.GoC.CurIs w_t_3 w.heap.size w_t_0.heap.size A0 c0 t_3) := Lib.hid (by rw [← hw_t_3, ← ht_3]; exact Go.Proofs.YtfjcibkgbalkaaaDoor.GoC.cur_new HBw_t_0.out.size (Cells.below M0.out HBw_t_0.out) (fun a_ ha_ h0_ => by subst ha_; exact Go.Proofs.YtfjcibkgbalkaaaDoor.GoC.cells_lt M0.out (by unfold Go.Proofs.YtfjcibkgbalkaaaDoor.GoC.u8s; rw [List.length_map]; exact h0_)) (HE.out.2.2 code V0.out N0.out))
  have hht_3 := Lib.hid ht_3
  clear ht_3
  have Dt_3_t_0 := Lib.hid (apart_box kt_0_0)
  have HBw_t_3 := Lib.hid (Below.step HBw_t_0.out bw_t_3)
  have kt_0_0__350 := cell_below bw_t_3 kt_0_0
  have kt_0_1__351 := cell_below bw_t_3 kt_0_1
  have kt_0_2__352 := cell_below bw_t_3 kt_0_2
  have kt_0_3__353 := cell_below bw_t_3 kt_0_3
  replace Ot_0 := Lib.hid (own_below Ot_0.out bw_t_3)
  clear bw_t_3
  replace H := bind2_hid H
  obtain ⟨t_6, t_6_tp, qt_6, H⟩ := H
  obtain ⟨t_6_leave, t_6_from_, t_6_to_, t_6_arrive⟩ := t_6
  replace H := unMail_hid H
  go_wp2_with fail
  clear kt_0_0 kt_0_1 kt_0_2 kt_0_3
  go_at_call 72
  refine (Go.Proofs.YtfjcibkgbalkaaaDoor.GsL1CurMail.C (t_3) (w_t_0.heap.size) (A0) (c0) (w.heap.size) _   Kt_3 qt_6).mono ?_
  rintro e_t_6 wt_6 ⟨rfl, kt_6, gt_6⟩
  unfold Go.Proofs.YtfjcibkgbalkaaaDoor.PMail.Mail.val
  have Kt_6 := Lib.hid kt_6
  have Gt_6 : Hid (w_t_3.grownBy wt_6 (Value.slice (some ⟨w_t_0.heap.size, 0, none⟩) 1 1).ownBlock) := Lib.hid gt_6
  clear kt_6 gt_6
  have HBwt_6 := Lib.hid (Go.Proofs.YtfjcibkgbalkaaaDoor.GoC.below_cur HBw_t_3.out Gt_6.out HBw_t_3.out.size (Go.Proofs.YtfjcibkgbalkaaaDoor.GoC.cur_lt Kt_3.out).1)
  replace kt_0_0__350 := cell_other kt_0_0__350 Gt_6.out Dt_3_t_0.out
  replace kt_0_1__351 := cell_other kt_0_1__351 Gt_6.out Dt_3_t_0.out
  replace kt_0_2__352 := cell_other kt_0_2__352 Gt_6.out Dt_3_t_0.out
  replace kt_0_3__353 := cell_other kt_0_3__353 Gt_6.out Dt_3_t_0.out
  replace Ot_0 := Lib.hid (own_other Ot_0.out Gt_6.out Dt_3_t_0.out)
  clear Kt_3 Gt_6
  obtain ⟨wb7_7, hwb7_7⟩ : ∃ x, ((((wt_6).setCell ⟨w.heap.size, 0, none⟩ (.int .i64 t_6_leave)).setCell ⟨w.heap.size, 1, none⟩ (.int .i64 t_6_from_)).setCell ⟨w.heap.size, 2, none⟩ (.int .i64 t_6_to_)).setCell ⟨w.heap.size, 3, none⟩ (.int .i64 t_6_arrive) = x := ⟨_, rfl⟩
  have z0b7_7 := Ot_0.out.frozenAt 0
  have z1b7_7 := Ot_0.out.frozenAt 1
  have z2b7_7 := Ot_0.out.frozenAt 2
  have z3b7_7 := Ot_0.out.frozenAt 3
  have Sb7_7 := Lib.hid (own_stores [(0, .int .i64 t_6_leave), (1, .int .i64 t_6_from_), (2, .int .i64 t_6_to_), (3, .int .i64 t_6_arrive)] Ot_0.out)
  have Pb7_7 : Hid (wb7_7.ownsRow w.heap.size 54 4 (.slice (some ⟨w.heap.size, 0, none⟩) 1 1) 1 [.int .i64 t_6_leave, .int .i64 t_6_from_, .int .i64 t_6_to_, .int .i64 t_6_arrive]) := Lib.hid (by rw [← hwb7_7]; exact Sb7_7.out.1)
  have Gb7_7 : Hid (wt_6.grownBy wb7_7 (Value.slice (some ⟨w.heap.size, 0, none⟩) 1 1).ownBlock) := Lib.hid (by rw [← hwb7_7]; exact Sb7_7.out.2)
  have HBwb7_7 := Lib.hid (HBwt_6.out.grown Gb7_7.out HBwt_6.out.size (fun q hq => (Ot_0.out.lt q hq).1))
  clear Sb7_7
  replace Kt_6 := Lib.hid (Go.Proofs.YtfjcibkgbalkaaaDoor.GoC.cur_other Kt_6.out Gb7_7.out (Apart.symm Dt_3_t_0.out) (Go.Proofs.YtfjcibkgbalkaaaDoor.GoC.own_ge Ot_0.out))
  clear Ot_0 Gb7_7
  have kt_0_0__354 : wb7_7.cell? ⟨w.heap.size, 0, none⟩ = some (.int .i64 t_6_leave) := Pb7_7.out.cells rfl 0 _ rfl
  have kt_0_1__355 : wb7_7.cell? ⟨w.heap.size, 1, none⟩ = some (.int .i64 t_6_from_) := Pb7_7.out.cells rfl 1 _ rfl
  have kt_0_2__356 : wb7_7.cell? ⟨w.heap.size, 2, none⟩ = some (.int .i64 t_6_to_) := Pb7_7.out.cells rfl 2 _ rfl
  have kt_0_3__357 : wb7_7.cell? ⟨w.heap.size, 3, none⟩ = some (.int .i64 t_6_arrive) := Pb7_7.out.cells rfl 3 _ rfl
  cases ret_hid H
  go_wp2_with fail
  (try simp only [Exit.inBlock, Exit.then])
  refine bodyPost_ret (v := .agg #[.int .i64 t_6_leave, .int .i64 t_6_from_, .int .i64 t_6_to_, .int .i64 t_6_arrive]) ?hr_ ?hd_ ?_
  case hd_ => rfl
  case hr_ => simp [results, Tryd.results36, kt_0_0__354, kt_0_1__355, kt_0_2__356, kt_0_3__357, go_sem]
  exact ⟨rfl, HBwb7_7.out⟩
end Go.Proofs.YtfjcibkgbalkaaaDoor.GsDrawMailText

/- strconv.Itoa as a plain function; the contract of the program's. Condition: the library's table of powers of ten is as the library lays it. -/
namespace Go.Proofs.YtfjcibkgbalkaaaDoor.GxStrconvItoa
set_option linter.unusedVariables false
open Go.RowKit
open Go.Proofs.YtfjcibkgbalkaaaDoor.Turn Go.Proofs.YtfjcibkgbalkaaaDoor.Tab
def P (n : Int) : Option ByteArray := if -9223372036854775808 ≤ n ∧ n ≤ 9223372036854775807 then some ⟨(Lib.itoa n).toArray⟩ else none
theorem C (n : Int) (w : World) (HT : Hid (Tab w)) {r : ByteArray} (H : Hid (P n = some r)) : Calls Tryd.prog 57 #[.int .i64 n] w (Gives (.string r) w) := by
  have h : P n = some r := H
  unfold P at h
  by_cases hk : -9223372036854775808 ≤ n ∧ n ≤ 9223372036854775807
  · rw [if_pos hk] at h
    obtain rfl := Option.some.inj h
    exact itoa_any n hk.1 hk.2 w HT
  · rw [if_neg hk] at h; simp at h
end Go.Proofs.YtfjcibkgbalkaaaDoor.GxStrconvItoa

/- loop.example/g01062/impl.MailText as a plain function, and the contract of the program's: where the plain one has an answer, the program has it. Conditions: slices read as lists. -/
namespace Go.Proofs.YtfjcibkgbalkaaaDoor.GiMailText
set_option linter.unusedVariables false
set_option linter.unusedSimpArgs false
open Go.RowKit
open Go.Proofs.YtfjcibkgbalkaaaDoor.Rowed Go.Proofs.YtfjcibkgbalkaaaDoor.Turn Go.Proofs.YtfjcibkgbalkaaaDoor.Aid Go.Proofs.YtfjcibkgbalkaaaDoor.GoP Go.Proofs.YtfjcibkgbalkaaaDoor.GoM Go.Proofs.YtfjcibkgbalkaaaDoor.Tab

def P (x : Go.Proofs.YtfjcibkgbalkaaaDoor.PMail.Mail) : Option (ByteArray × Bool) :=
  unMail x fun (x_leave : Int) (x_from_ : Int) (x_to_ : Int) (x_arrive : Int) =>
  Option.bind (Go.Proofs.YtfjcibkgbalkaaaDoor.GiIsMail.P (Go.Proofs.YtfjcibkgbalkaaaDoor.PMail.Mail.mk x_leave x_from_ x_to_ x_arrive)) fun (t_4 : Bool) =>
  letK (!t_4) fun (t_5 : Bool) =>
  iteK t_5
  (some ((⟨#[]⟩ : ByteArray), false))
  (Option.bind (Go.Proofs.YtfjcibkgbalkaaaDoor.GxStrconvItoa.P x_from_) fun (t_10 : ByteArray) =>
  guardK (t_10.size + (⟨#[62]⟩ : ByteArray).size ≤ maxLen) <|
  letK (t_10 ++ (⟨#[62]⟩ : ByteArray)) fun (t_11 : ByteArray) =>
  Option.bind (Go.Proofs.YtfjcibkgbalkaaaDoor.GxStrconvItoa.P x_to_) fun (t_14 : ByteArray) =>
  guardK (t_11.size + t_14.size ≤ maxLen) <|
  letK (t_11 ++ t_14) fun (t_15 : ByteArray) =>
  guardK (t_15.size + (⟨#[32]⟩ : ByteArray).size ≤ maxLen) <|
  letK (t_15 ++ (⟨#[32]⟩ : ByteArray)) fun (t_16 : ByteArray) =>
  Option.bind (Go.Proofs.YtfjcibkgbalkaaaDoor.GxStrconvItoa.P x_leave) fun (t_19 : ByteArray) =>
  guardK (t_16.size + t_19.size ≤ maxLen) <|
  letK (t_16 ++ t_19) fun (t_20 : ByteArray) =>
  guardK (t_20.size + (⟨#[45]⟩ : ByteArray).size ≤ maxLen) <|
  letK (t_20 ++ (⟨#[45]⟩ : ByteArray)) fun (t_21 : ByteArray) =>
  Option.bind (Go.Proofs.YtfjcibkgbalkaaaDoor.GxStrconvItoa.P x_arrive) fun (t_24 : ByteArray) =>
  guardK (t_21.size + t_24.size ≤ maxLen) <|
  letK (t_21 ++ t_24) fun (t_25 : ByteArray) =>
  some (t_25, true))

set_option maxRecDepth 100000 in
set_option maxHeartbeats 2000000 in
theorem C (x : Go.Proofs.YtfjcibkgbalkaaaDoor.PMail.Mail)   (w : World) (HT : Hid (Tab w))   {r0 : ByteArray} {r1 : Bool} (H : Hid (P x = some (r0, r1))) :
    Calls Tryd.prog 37 #[x.val] w (Gives (.tuple #[.string r0, .bool r1]) w) := by
  have HB := Lib.hid (Below.refl w.heap.size w)
  unfold P at H
  obtain ⟨x_leave, x_from_, x_to_, x_arrive⟩ := x
  replace H := unMail_hid H
  unfold Go.Proofs.YtfjcibkgbalkaaaDoor.PMail.Mail.val
  go_enter Tryd.func37, Tryd.ntmps37
  obtain ⟨w_x_0, hw_x_0⟩ : ∃ x, w.alloc (.cells #[.int .i64 x_leave, .int .i64 x_from_, .int .i64 x_to_, .int .i64 x_arrive] 54) = x := ⟨_, rfl⟩
  have bw_x_0 : Below w.heap.size w w_x_0 := by rw [← hw_x_0]; exact (Below.refl _ _).alloc (Nat.le_refl _) _
  have HBw_x_0 := Lib.hid (Below.step HB.out bw_x_0)
  clear bw_x_0
  have kx_0_0 : w_x_0.cell? ⟨w.heap.size, 0, none⟩ = some (.int .i64 x_leave) := by rw [← hw_x_0]; exact box_new _ _ _ 0 _ rfl
  have kx_0_1 : w_x_0.cell? ⟨w.heap.size, 1, none⟩ = some (.int .i64 x_from_) := by rw [← hw_x_0]; exact box_new _ _ _ 1 _ rfl
  have kx_0_2 : w_x_0.cell? ⟨w.heap.size, 2, none⟩ = some (.int .i64 x_to_) := by rw [← hw_x_0]; exact box_new _ _ _ 2 _ rfl
  have kx_0_3 : w_x_0.cell? ⟨w.heap.size, 3, none⟩ = some (.int .i64 x_arrive) := by rw [← hw_x_0]; exact box_new _ _ _ 3 _ rfl
  replace H := bind_hid H
  obtain ⟨t_4, qt_4, H⟩ := H
  go_wp2_with fail
  go_at_call 73
  refine (Go.Proofs.YtfjcibkgbalkaaaDoor.GiIsMail.C ((Go.Proofs.YtfjcibkgbalkaaaDoor.PMail.Mail.mk x_leave x_from_ x_to_ x_arrive))  _    qt_4).mono ?_
  rintro e_t_4 wt_4 ⟨rfl, bt_4⟩
  have HBwt_4 := Lib.hid (Below.step HBw_x_0.out bt_4)
  replace kx_0_0 := cell_below bt_4 kx_0_0
  replace kx_0_1 := cell_below bt_4 kx_0_1
  replace kx_0_2 := cell_below bt_4 kx_0_2
  replace kx_0_3 := cell_below bt_4 kx_0_3
  clear bt_4
  cases t_4 with
  | false =>
    replace H := let_hid H
    obtain ⟨t_5, ht_5, H⟩ := H
    obtain rfl : t_5 = true := ht_5.symm
    replace H := ite_t H
    cases ret_hid H
    go_wp2_with fail
    go_ret2
    exact ⟨rfl, HBwt_4.out⟩
  | true =>
    replace H := let_hid H
    obtain ⟨t_5, ht_5, H⟩ := H
    obtain rfl : t_5 = false := ht_5.symm
    replace H := ite_f H
    go_wp2_with fail
    have Hkx_0_0 := Lib.hid kx_0_0
    replace kx_0_0 := cell_regrown kx_0_0
    have Hkx_0_1 := Lib.hid kx_0_1
    replace kx_0_1 := cell_regrown kx_0_1
    have Hkx_0_2 := Lib.hid kx_0_2
    replace kx_0_2 := cell_regrown kx_0_2
    have Hkx_0_3 := Lib.hid kx_0_3
    replace kx_0_3 := cell_regrown kx_0_3
    replace H := bind_hid H
    obtain ⟨t_10, qt_10, H⟩ := H
    have nt_10 : ∀ d os, Calls Tryd.prog 57 #[.int .i64 x_from_] (Go.Sort.grow (redrawn wt_4 d) os) fun e w'' => e = .returned (.string t_10) ∧ ∃ p : Regrown, w'' = Go.Sort.grow (redrawn wt_4 p.d) p.os := fun d os => Calls.regrown_of (Go.Proofs.YtfjcibkgbalkaaaDoor.GxStrconvItoa.C (x_from_)  _ (tab_below (below_regrown _ _ _) (tab_below HBwt_4.out HT))   qt_10)
    replace H := guard_hid H
    obtain ⟨hl_t_11, H⟩ := H
    replace H := let_hid H
    obtain ⟨t_11, ht_11, H⟩ := H
    have ct_11 := cat_rule (P := Tryd.prog) ht_11 hl_t_11
    clear hl_t_11
    have hht_11 := Lib.hid ht_11
    clear ht_11
    replace H := bind_hid H
    obtain ⟨t_14, qt_14, H⟩ := H
    have nt_14 : ∀ d os, Calls Tryd.prog 57 #[.int .i64 x_to_] (Go.Sort.grow (redrawn wt_4 d) os) fun e w'' => e = .returned (.string t_14) ∧ ∃ p : Regrown, w'' = Go.Sort.grow (redrawn wt_4 p.d) p.os := fun d os => Calls.regrown_of (Go.Proofs.YtfjcibkgbalkaaaDoor.GxStrconvItoa.C (x_to_)  _ (tab_below (below_regrown _ _ _) (tab_below HBwt_4.out HT))   qt_14)
    replace H := guard_hid H
    obtain ⟨hl_t_15, H⟩ := H
    replace H := let_hid H
    obtain ⟨t_15, ht_15, H⟩ := H
    have ct_15 := cat_rule (P := Tryd.prog) ht_15 hl_t_15
    clear hl_t_15
    have hht_15 := Lib.hid ht_15
    clear ht_15
    replace H := guard_hid H
    obtain ⟨hl_t_16, H⟩ := H
    replace H := let_hid H
    obtain ⟨t_16, ht_16, H⟩ := H
    have ct_16 := cat_rule (P := Tryd.prog) ht_16 hl_t_16
    clear hl_t_16
    have hht_16 := Lib.hid ht_16
    clear ht_16
    replace H := bind_hid H
    obtain ⟨t_19, qt_19, H⟩ := H
    have nt_19 : ∀ d os, Calls Tryd.prog 57 #[.int .i64 x_leave] (Go.Sort.grow (redrawn wt_4 d) os) fun e w'' => e = .returned (.string t_19) ∧ ∃ p : Regrown, w'' = Go.Sort.grow (redrawn wt_4 p.d) p.os := fun d os => Calls.regrown_of (Go.Proofs.YtfjcibkgbalkaaaDoor.GxStrconvItoa.C (x_leave)  _ (tab_below (below_regrown _ _ _) (tab_below HBwt_4.out HT))   qt_19)
    replace H := guard_hid H
    obtain ⟨hl_t_20, H⟩ := H
    replace H := let_hid H
    obtain ⟨t_20, ht_20, H⟩ := H
    have ct_20 := cat_rule (P := Tryd.prog) ht_20 hl_t_20
    clear hl_t_20
    have hht_20 := Lib.hid ht_20
    clear ht_20
    replace H := guard_hid H
    obtain ⟨hl_t_21, H⟩ := H
    replace H := let_hid H
    obtain ⟨t_21, ht_21, H⟩ := H
    have ct_21 := cat_rule (P := Tryd.prog) ht_21 hl_t_21
    clear hl_t_21
    have hht_21 := Lib.hid ht_21
    clear ht_21
    replace H := bind_hid H
    obtain ⟨t_24, qt_24, H⟩ := H
    have nt_24 : ∀ d os, Calls Tryd.prog 57 #[.int .i64 x_arrive] (Go.Sort.grow (redrawn wt_4 d) os) fun e w'' => e = .returned (.string t_24) ∧ ∃ p : Regrown, w'' = Go.Sort.grow (redrawn wt_4 p.d) p.os := fun d os => Calls.regrown_of (Go.Proofs.YtfjcibkgbalkaaaDoor.GxStrconvItoa.C (x_arrive)  _ (tab_below (below_regrown _ _ _) (tab_below HBwt_4.out HT))   qt_24)
    replace H := guard_hid H
    obtain ⟨hl_t_25, H⟩ := H
    replace H := let_hid H
    obtain ⟨t_25, ht_25, H⟩ := H
    have ct_25 := cat_rule (P := Tryd.prog) ht_25 hl_t_25
    clear hl_t_25
    have hht_25 := Lib.hid ht_25
    clear ht_25
    refine wp_region_quiet_below (by kernel_rfl) (by kernel_rfl) ?_
    repeat (go_big_quiet_step (first | (go_at_call 57; with_reducible exact nt_10 _ _) | (go_at_call 57; with_reducible exact nt_14 _ _) | (go_at_call 57; with_reducible exact nt_19 _ _) | (go_at_call 57; with_reducible exact nt_24 _ _) | (go_at_call 57; exact nt_10 _ _) | (go_at_call 57; exact nt_14 _ _) | (go_at_call 57; exact nt_19 _ _) | (go_at_call 57; exact nt_24 _ _)))
    refine wpQuiet_nil ?_
    intro Y3 hY3
    replace hY3 := below_class hY3
    clear nt_10 nt_14 nt_19 nt_24
    replace kx_0_0 := Hkx_0_0.out
    clear Hkx_0_0
    replace kx_0_1 := Hkx_0_1.out
    clear Hkx_0_1
    replace kx_0_2 := Hkx_0_2.out
    clear Hkx_0_2
    replace kx_0_3 := Hkx_0_3.out
    clear Hkx_0_3
    have HBY3 := Lib.hid (Below.step HBwt_4.out hY3)
    replace kx_0_0 := cell_below hY3 kx_0_0
    replace kx_0_1 := cell_below hY3 kx_0_1
    replace kx_0_2 := cell_below hY3 kx_0_2
    replace kx_0_3 := cell_below hY3 kx_0_3
    clear hY3
    cases ret_hid H
    go_wp2_with fail
    go_ret2
    exact ⟨rfl, HBY3.out⟩
end Go.Proofs.YtfjcibkgbalkaaaDoor.GiMailText

/- The contracts of spec.l1In and spec.l1Num: whether a number lies within bounds, and its decimal numeral. Condition: the number is an int, from -2^62 on for l1Num. -/
namespace Go.Proofs.YtfjcibkgbalkaaaDoor.Num
open Go.RowKit

theorem l1In_yes (x a b : Int) (w : World) (h1 : a ≤ x) (h2 : x ≤ b) :
    Calls Tryd.prog 71 #[.int .i64 x, .int .i64 a, .int .i64 b] w fun e w' => e = .returned (.bool true) ∧ w = w' := by
  go_enter Tryd.func71, Tryd.ntmps71
  go_wp2
  go_ret
  exact ⟨rfl, rfl⟩

theorem l1In_no (x a b : Int) (w : World) (h : x < a ∨ b < x) :
    Calls Tryd.prog 71 #[.int .i64 x, .int .i64 a, .int .i64 b] w fun e w' => e = .returned (.bool false) ∧ w = w' := by
  by_cases h1 : a ≤ x
  · have h2 : b < x := by omega
    clear h
    go_enter Tryd.func71, Tryd.ntmps71
    go_wp2
    go_ret
    exact ⟨by simp; omega, rfl⟩
  · clear h
    go_enter Tryd.func71, Tryd.ntmps71
    go_wp2
    go_ret
    exact ⟨rfl, rfl⟩

theorem digits10 (n : Int) (_h0 : 0 ≤ n) (h : n < 10) : (ByteArray.mk #[48, 49, 50, 51, 52, 53, 54, 55, 56, 57]).extract n.toNat (n + 1).toNat = ByteArray.mk #[UInt8.ofNat (48 + n.toNat)] := by
  obtain rfl | rfl | rfl | rfl | rfl | rfl | rfl | rfl | rfl | rfl : n = 0 ∨ n = 1 ∨ n = 2 ∨ n = 3 ∨ n = 4 ∨ n = 5 ∨ n = 6 ∨ n = 7 ∨ n = 8 ∨ n = 9 := by omega
  all_goals rfl

theorem decDigits_step (n : Int) (_h0 : 0 ≤ n) (h : ¬ n < 10) : Lib.decDigits n.toNat = Lib.decDigits (n / 10).toNat ++ [UInt8.ofNat (48 + (n % 10).toNat)] := by
  rw [Lib.decDigits, dif_neg (by omega)]
  have e1 : n.toNat / 10 = (n / 10).toNat := by omega
  have e2 : n.toNat % 10 = (n % 10).toNat := by omega
  rw [e1, e2]

theorem add_digit (n : Int) (h0 : 0 ≤ n) (h : ¬ n < 10) (hb : n ≤ 4611686018427387904) (W : World) :
    (Op.stringOp .add ⟨(Lib.decDigits (n / 10).toNat).toArray⟩ ((ByteArray.mk #[48, 49, 50, 51, 52, 53, 54, 55, 56, 57]).extract (n % 10).toNat (n % 10 + 1).toNat)).run Tryd.prog W
      = .ok (.string ⟨(Lib.decDigits n.toNat).toArray⟩) W := by
  have hl : Lib.nDigits (n / 10).toNat ≤ 20 := Lib.nDigits_le20 _ (by omega)
  rw [digits10 (n % 10) (by omega) (by omega)]
  rw [run_string_add_sum]
  · rw [decDigits_step n h0 h]
    congr 2
  · have e1 : (ByteArray.mk (Lib.decDigits (n / 10).toNat).toArray).size = Lib.nDigits (n / 10).toNat := by
      rw [← Lib.decDigits_length]; rfl
    rw [e1]
    show Lib.nDigits (n / 10).toNat + 1 ≤ _
    omega

set_option maxHeartbeats 800000 in
theorem l1Num_pos (k : Nat) : ∀ (n : Int) (w : World), n < k → 0 ≤ n → n ≤ 4611686018427387904 →
    Calls Tryd.prog 59 #[.int .i64 n] w fun e w' => e = .returned (.string ⟨(Lib.decDigits n.toNat).toArray⟩) ∧ ∃ m, w' = w.drewN m := by
  induction k with
  | zero => intro n w hk h0 _; omega
  | succ k ih =>
    intro n w hk h0 hb
    by_cases h10 : n < 10
    · have HD := Lib.hid (digits10 n h0 h10)
      go_enter Tryd.func59, Tryd.ntmps59
      go_wp2_with fail
      go_ret
      refine ⟨?_, 0, rfl⟩
      rw [Lib.decDigits_one (by omega)]
      simp only [HD.out]
      rfl
    · have hadd := add_digit n h0 h10 hb
      go_enter Tryd.func59, Tryd.ntmps59
      go_wp2_with fail
      have q1 : IntKind.i64.wrap (n.tdiv 10) = n / 10 := by rw [Int.tdiv_eq_ediv_of_nonneg h0]; exact IntWalk.i64_in _ (by omega)
      have q2 : n.tmod 10 = n % 10 := Int.tmod_eq_emod_of_nonneg h0
      have q3 : IntKind.i64.wrap (n % 10) = n % 10 := IntWalk.i64_in _ (by omega)
      have q4 : IntKind.i64.wrap (n % 10 + 1) = n % 10 + 1 := IntWalk.i64_in _ (by omega)
      have b1 : 0 ≤ n % 10 := by omega
      have b2 : n % 10 ≤ n % 10 + 1 := by omega
      have b3 : n % 10 + 1 ≤ 10 := by omega
      have b4 : 0 ≤ n % 10 + 1 := by omega
      have L1 : n / 10 < (k : Int) := by omega
      have L2 : 0 ≤ n / 10 := by omega
      have L3 : n / 10 ≤ 4611686018427387904 := by omega
      go_quiet ((go_at_call 59; exact Calls.quiet_of (ih (n / 10) _ L1 L2 L3)))
      go_wp2_with fail
      go_ret
      exact ⟨rfl, _, rfl⟩

theorem add_minus (n : Int) (h : n < 0) (hb : -4611686018427387904 ≤ n) (W : World) :
    (Op.stringOp .add ⟨#[45]⟩ ⟨(Lib.decDigits (-n).toNat).toArray⟩).run Tryd.prog W = .ok (.string ⟨(Lib.itoa n).toArray⟩) W := by
  have hl : Lib.nDigits (-n).toNat ≤ 20 := Lib.nDigits_le20 _ (by omega)
  have e1 : (ByteArray.mk (Lib.decDigits (-n).toNat).toArray).size = Lib.nDigits (-n).toNat := by
    rw [← Lib.decDigits_length]; rfl
  have e2 : (-n).toNat = n.natAbs := by omega
  rw [run_string_add_sum]
  · unfold Lib.itoa
    rw [if_pos h, e2]
    congr 2
  · rw [e1]
    show 1 + _ ≤ _
    omega

/-- spec.l1Num, for every number that is not too far out -/
theorem l1Num_any (n : Int) (w : World) (h1 : -4611686018427387904 ≤ n) (h2 : n ≤ 4611686018427387904) :
    Calls Tryd.prog 59 #[.int .i64 n] w fun e w' => e = .returned (.string ⟨(Lib.itoa n).toArray⟩) ∧ ∃ m, w' = w.drewN m := by
  by_cases h : n < 0
  · have hadd := add_minus n h h1
    have L1 : -n < ((-n).toNat + 1 : Nat) := by omega
    go_enter Tryd.func59, Tryd.ntmps59
    go_wp2_with (go_at_call 59; refine (l1Num_pos ((-n).toNat + 1) (-n) _ L1 (by omega) (by omega)).mono ?_; rintro e w' ⟨rfl, m, rfl⟩)
    go_ret
    exact ⟨rfl, _, rfl⟩
  · refine (l1Num_pos (n.toNat + 1) n w (by omega) (by omega) h2).mono ?_
    rintro e w' ⟨rfl, m, rfl⟩
    refine ⟨?_, m, rfl⟩
    unfold Lib.itoa
    rw [if_neg h]

end Go.Proofs.YtfjcibkgbalkaaaDoor.Num

/- spec.l1Num as a plain function, for numbers that are not too far out; the contract of the program's. No condition. -/
namespace Go.Proofs.YtfjcibkgbalkaaaDoor.GsL1Num
set_option linter.unusedVariables false
open Go.RowKit
open Go.Proofs.YtfjcibkgbalkaaaDoor.Turn
def P (n : Int) : Option ByteArray := if -4611686018427387904 ≤ n ∧ n ≤ 4611686018427387904 then some ⟨(Lib.itoa n).toArray⟩ else none
theorem C (n : Int) (w : World) {r : ByteArray} (H : Hid (P n = some r)) : Calls Tryd.prog 59 #[.int .i64 n] w (Gives (.string r) w) := by
  have h : P n = some r := H
  unfold P at h
  by_cases hk : -4611686018427387904 ≤ n ∧ n ≤ 4611686018427387904
  · rw [if_pos hk] at h
    obtain rfl := Option.some.inj h
    refine (Go.Proofs.YtfjcibkgbalkaaaDoor.Num.l1Num_any n w hk.1 hk.2).mono ?_
    rintro e w' ⟨rfl, m, rfl⟩
    exact ⟨rfl, Go.below_drewN (Below.refl _ _) m⟩
  · rw [if_neg hk] at h; simp at h
end Go.Proofs.YtfjcibkgbalkaaaDoor.GsL1Num

/- loop.example/g01062/spec.MailText as a plain function, and the contract of the program's: where the plain one has an answer, the program has it. Conditions: slices read as lists. -/
namespace Go.Proofs.YtfjcibkgbalkaaaDoor.GsMailText
set_option linter.unusedVariables false
set_option linter.unusedSimpArgs false
open Go.RowKit
open Go.Proofs.YtfjcibkgbalkaaaDoor.Rowed Go.Proofs.YtfjcibkgbalkaaaDoor.Turn Go.Proofs.YtfjcibkgbalkaaaDoor.Aid Go.Proofs.YtfjcibkgbalkaaaDoor.GoP Go.Proofs.YtfjcibkgbalkaaaDoor.GoM

def P (x : Go.Proofs.YtfjcibkgbalkaaaDoor.PMail.Mail) : Option (ByteArray × Bool) :=
  unMail x fun (x_leave : Int) (x_from_ : Int) (x_to_ : Int) (x_arrive : Int) =>
  Option.bind (Go.Proofs.YtfjcibkgbalkaaaDoor.GsL9One.P (Go.Proofs.YtfjcibkgbalkaaaDoor.PMail.Mail.mk x_leave x_from_ x_to_ x_arrive)) fun (t_4 : Bool) =>
  letK (!t_4) fun (t_5 : Bool) =>
  iteK t_5
  (some ((⟨#[]⟩ : ByteArray), false))
  (Option.bind (Go.Proofs.YtfjcibkgbalkaaaDoor.GsL1Num.P x_from_) fun (t_10 : ByteArray) =>
  guardK (t_10.size + (⟨#[62]⟩ : ByteArray).size ≤ maxLen) <|
  letK (t_10 ++ (⟨#[62]⟩ : ByteArray)) fun (t_11 : ByteArray) =>
  Option.bind (Go.Proofs.YtfjcibkgbalkaaaDoor.GsL1Num.P x_to_) fun (t_14 : ByteArray) =>
  guardK (t_11.size + t_14.size ≤ maxLen) <|
  letK (t_11 ++ t_14) fun (t_15 : ByteArray) =>
  guardK (t_15.size + (⟨#[32]⟩ : ByteArray).size ≤ maxLen) <|
  letK (t_15 ++ (⟨#[32]⟩ : ByteArray)) fun (t_16 : ByteArray) =>
  Option.bind (Go.Proofs.YtfjcibkgbalkaaaDoor.GsL1Num.P x_leave) fun (t_19 : ByteArray) =>
  guardK (t_16.size + t_19.size ≤ maxLen) <|
  letK (t_16 ++ t_19) fun (t_20 : ByteArray) =>
  guardK (t_20.size + (⟨#[45]⟩ : ByteArray).size ≤ maxLen) <|
  letK (t_20 ++ (⟨#[45]⟩ : ByteArray)) fun (t_21 : ByteArray) =>
  Option.bind (Go.Proofs.YtfjcibkgbalkaaaDoor.GsL1Num.P x_arrive) fun (t_24 : ByteArray) =>
  guardK (t_21.size + t_24.size ≤ maxLen) <|
  letK (t_21 ++ t_24) fun (t_25 : ByteArray) =>
  some (t_25, true))

set_option maxRecDepth 100000 in
set_option maxHeartbeats 2000000 in
theorem C (x : Go.Proofs.YtfjcibkgbalkaaaDoor.PMail.Mail)   (w : World)   {r0 : ByteArray} {r1 : Bool} (H : Hid (P x = some (r0, r1))) :
    Calls Tryd.prog 38 #[x.val] w (Gives (.tuple #[.string r0, .bool r1]) w) := by
  have HB := Lib.hid (Below.refl w.heap.size w)
  unfold P at H
  obtain ⟨x_leave, x_from_, x_to_, x_arrive⟩ := x
  replace H := unMail_hid H
  unfold Go.Proofs.YtfjcibkgbalkaaaDoor.PMail.Mail.val
  go_enter Tryd.func38, Tryd.ntmps38
  obtain ⟨w_x_0, hw_x_0⟩ : ∃ x, w.alloc (.cells #[.int .i64 x_leave, .int .i64 x_from_, .int .i64 x_to_, .int .i64 x_arrive] 54) = x := ⟨_, rfl⟩
  have bw_x_0 : Below w.heap.size w w_x_0 := by rw [← hw_x_0]; exact (Below.refl _ _).alloc (Nat.le_refl _) _
  have HBw_x_0 := Lib.hid (Below.step HB.out bw_x_0)
  clear bw_x_0
  have kx_0_0 : w_x_0.cell? ⟨w.heap.size, 0, none⟩ = some (.int .i64 x_leave) := by rw [← hw_x_0]; exact box_new _ _ _ 0 _ rfl
  have kx_0_1 : w_x_0.cell? ⟨w.heap.size, 1, none⟩ = some (.int .i64 x_from_) := by rw [← hw_x_0]; exact box_new _ _ _ 1 _ rfl
  have kx_0_2 : w_x_0.cell? ⟨w.heap.size, 2, none⟩ = some (.int .i64 x_to_) := by rw [← hw_x_0]; exact box_new _ _ _ 2 _ rfl
  have kx_0_3 : w_x_0.cell? ⟨w.heap.size, 3, none⟩ = some (.int .i64 x_arrive) := by rw [← hw_x_0]; exact box_new _ _ _ 3 _ rfl
  replace H := bind_hid H
  obtain ⟨t_4, qt_4, H⟩ := H
  go_wp2_with fail
  go_at_call 74
  refine (Go.Proofs.YtfjcibkgbalkaaaDoor.GsL9One.C ((Go.Proofs.YtfjcibkgbalkaaaDoor.PMail.Mail.mk x_leave x_from_ x_to_ x_arrive))  _    qt_4).mono ?_
  rintro e_t_4 wt_4 ⟨rfl, bt_4⟩
  have HBwt_4 := Lib.hid (Below.step HBw_x_0.out bt_4)
  replace kx_0_0 := cell_below bt_4 kx_0_0
  replace kx_0_1 := cell_below bt_4 kx_0_1
  replace kx_0_2 := cell_below bt_4 kx_0_2
  replace kx_0_3 := cell_below bt_4 kx_0_3
  clear bt_4
  cases t_4 with
  | false =>
    replace H := let_hid H
    obtain ⟨t_5, ht_5, H⟩ := H
    obtain rfl : t_5 = true := ht_5.symm
    replace H := ite_t H
    cases ret_hid H
    go_wp2_with fail
    go_ret2
    exact ⟨rfl, HBwt_4.out⟩
  | true =>
    replace H := let_hid H
    obtain ⟨t_5, ht_5, H⟩ := H
    obtain rfl : t_5 = false := ht_5.symm
    replace H := ite_f H
    go_wp2_with fail
    have Hkx_0_0 := Lib.hid kx_0_0
    replace kx_0_0 := cell_regrown kx_0_0
    have Hkx_0_1 := Lib.hid kx_0_1
    replace kx_0_1 := cell_regrown kx_0_1
    have Hkx_0_2 := Lib.hid kx_0_2
    replace kx_0_2 := cell_regrown kx_0_2
    have Hkx_0_3 := Lib.hid kx_0_3
    replace kx_0_3 := cell_regrown kx_0_3
    replace H := bind_hid H
    obtain ⟨t_10, qt_10, H⟩ := H
    have nt_10 : ∀ d os, Calls Tryd.prog 59 #[.int .i64 x_from_] (Go.Sort.grow (redrawn wt_4 d) os) fun e w'' => e = .returned (.string t_10) ∧ ∃ p : Regrown, w'' = Go.Sort.grow (redrawn wt_4 p.d) p.os := fun d os => Calls.regrown_of (Go.Proofs.YtfjcibkgbalkaaaDoor.GsL1Num.C (x_from_)  _    qt_10)
    replace H := guard_hid H
    obtain ⟨hl_t_11, H⟩ := H
    replace H := let_hid H
    obtain ⟨t_11, ht_11, H⟩ := H
    have ct_11 := cat_rule (P := Tryd.prog) ht_11 hl_t_11
    clear hl_t_11
    have hht_11 := Lib.hid ht_11
    clear ht_11
    replace H := bind_hid H
    obtain ⟨t_14, qt_14, H⟩ := H
    have nt_14 : ∀ d os, Calls Tryd.prog 59 #[.int .i64 x_to_] (Go.Sort.grow (redrawn wt_4 d) os) fun e w'' => e = .returned (.string t_14) ∧ ∃ p : Regrown, w'' = Go.Sort.grow (redrawn wt_4 p.d) p.os := fun d os => Calls.regrown_of (Go.Proofs.YtfjcibkgbalkaaaDoor.GsL1Num.C (x_to_)  _    qt_14)
    replace H := guard_hid H
    obtain ⟨hl_t_15, H⟩ := H
    replace H := let_hid H
    obtain ⟨t_15, ht_15, H⟩ := H
    have ct_15 := cat_rule (P := Tryd.prog) ht_15 hl_t_15
    clear hl_t_15
    have hht_15 := Lib.hid ht_15
    clear ht_15
    replace H := guard_hid H
    obtain ⟨hl_t_16, H⟩ := H
    replace H := let_hid H
    obtain ⟨t_16, ht_16, H⟩ := H
    have ct_16 := cat_rule (P := Tryd.prog) ht_16 hl_t_16
    clear hl_t_16
    have hht_16 := Lib.hid ht_16
    clear ht_16
    replace H := bind_hid H
    obtain ⟨t_19, qt_19, H⟩ := H
    have nt_19 : ∀ d os, Calls Tryd.prog 59 #[.int .i64 x_leave] (Go.Sort.grow (redrawn wt_4 d) os) fun e w'' => e = .returned (.string t_19) ∧ ∃ p : Regrown, w'' = Go.Sort.grow (redrawn wt_4 p.d) p.os := fun d os => Calls.regrown_of (Go.Proofs.YtfjcibkgbalkaaaDoor.GsL1Num.C (x_leave)  _    qt_19)
    replace H := guard_hid H
    obtain ⟨hl_t_20, H⟩ := H
    replace H := let_hid H
    obtain ⟨t_20, ht_20, H⟩ := H
    have ct_20 := cat_rule (P := Tryd.prog) ht_20 hl_t_20
    clear hl_t_20
    have hht_20 := Lib.hid ht_20
    clear ht_20
    replace H := guard_hid H
    obtain ⟨hl_t_21, H⟩ := H
    replace H := let_hid H
    obtain ⟨t_21, ht_21, H⟩ := H
    have ct_21 := cat_rule (P := Tryd.prog) ht_21 hl_t_21
    clear hl_t_21
    have hht_21 := Lib.hid ht_21
    clear ht_21
    replace H := bind_hid H
    obtain ⟨t_24, qt_24, H⟩ := H
    have nt_24 : ∀ d os, Calls Tryd.prog 59 #[.int .i64 x_arrive] (Go.Sort.grow (redrawn wt_4 d) os) fun e w'' => e = .returned (.string t_24) ∧ ∃ p : Regrown, w'' = Go.Sort.grow (redrawn wt_4 p.d) p.os := fun d os => Calls.regrown_of (Go.Proofs.YtfjcibkgbalkaaaDoor.GsL1Num.C (x_arrive)  _    qt_24)
    replace H := guard_hid H
    obtain ⟨hl_t_25, H⟩ := H
    replace H := let_hid H
    obtain ⟨t_25, ht_25, H⟩ := H
    have ct_25 := cat_rule (P := Tryd.prog) ht_25 hl_t_25
    clear hl_t_25
    have hht_25 := Lib.hid ht_25
    clear ht_25
    refine wp_region_quiet_below (by kernel_rfl) (by kernel_rfl) ?_
    repeat (go_big_quiet_step (first | (go_at_call 59; with_reducible exact nt_10 _ _) | (go_at_call 59; with_reducible exact nt_14 _ _) | (go_at_call 59; with_reducible exact nt_19 _ _) | (go_at_call 59; with_reducible exact nt_24 _ _) | (go_at_call 59; exact nt_10 _ _) | (go_at_call 59; exact nt_14 _ _) | (go_at_call 59; exact nt_19 _ _) | (go_at_call 59; exact nt_24 _ _)))
    refine wpQuiet_nil ?_
    intro Y3 hY3
    replace hY3 := below_class hY3
    clear nt_10 nt_14 nt_19 nt_24
    replace kx_0_0 := Hkx_0_0.out
    clear Hkx_0_0
    replace kx_0_1 := Hkx_0_1.out
    clear Hkx_0_1
    replace kx_0_2 := Hkx_0_2.out
    clear Hkx_0_2
    replace kx_0_3 := Hkx_0_3.out
    clear Hkx_0_3
    have HBY3 := Lib.hid (Below.step HBwt_4.out hY3)
    replace kx_0_0 := cell_below hY3 kx_0_0
    replace kx_0_1 := cell_below hY3 kx_0_1
    replace kx_0_2 := cell_below hY3 kx_0_2
    replace kx_0_3 := cell_below hY3 kx_0_3
    clear hY3
    cases ret_hid H
    go_wp2_with fail
    go_ret2
    exact ⟨rfl, HBY3.out⟩
end Go.Proofs.YtfjcibkgbalkaaaDoor.GsMailText

