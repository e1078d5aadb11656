/- Texts on which the proofs of several laws stand, one behind the other (3 of 13). No condition of their own. -/
import Derived.Test.YtlljmgphgmklcaaChecked
import Derived.Test.YtlljmgphgmklcaaV10P1
import Derived.Test.YtlljmgphgmklcaaV10P2
import Derived.WalkKit
import Derived.WalkSpells
import Derived.WalkLawsBesides
import Derived.BigQuiet
import Derived.OwnWalk
import Derived.Deep.LoopGhost
import Derived.Deep.QuietTactic
import Derived.IntWalk
import Derived.Lib.QuietBelow
import Derived.StillTailTactics
/- loop.example/g01062/spec.l9Good as a plain function, and the contract of the program's: where the plain one has an answer, the program has it. Conditions: slices read as lists. -/
namespace Go.Proofs.Ytlljmgphgmklcaa.GsL9Good
set_option linter.unusedVariables false
set_option linter.unusedSimpArgs false
open Go.RowKit
open Go.Proofs.Ytlljmgphgmklcaa.Rowed Go.Proofs.Ytlljmgphgmklcaa.Turn Go.Proofs.Ytlljmgphgmklcaa.Aid Go.Proofs.Ytlljmgphgmklcaa.GoP Go.Proofs.Ytlljmgphgmklcaa.GoM

def l0 (list : (List Go.Proofs.Ytlljmgphgmklcaa.PMail.Mail)) (k0 : Nat) (s : Unit) (nx0 bk0 : Unit → Option (Bool)) : Option (Bool) :=
  
  Option.bind (idx list (k0 : Int)) fun (yt_8 : Go.Proofs.Ytlljmgphgmklcaa.PMail.Mail) =>
  unMail yt_8 fun (t_8_leave : Int) (t_8_from_ : Int) (t_8_to_ : Int) (t_8_arrive : Int) =>
  Option.bind (Go.Proofs.Ytlljmgphgmklcaa.GsL9One.P (Go.Proofs.Ytlljmgphgmklcaa.PMail.Mail.mk t_8_leave t_8_from_ t_8_to_ t_8_arrive)) fun (t_10 : Bool) =>
  letK (!t_10) fun (t_11 : Bool) =>
  joinK (fun (t_29 : Bool) =>
  iteK t_29
  (some false)
  (appK nx0 ())) fun jt_29 => iteK t_11 (appK jt_29 true) (letK (decide (0 < (k0 : Int))) fun (t_14 : Bool) =>
  joinK (fun (t_28 : Bool) =>
  appK jt_29 t_28) fun jt_28 => iteK t_14 (letK (IntKind.i64.wrap ((k0 : Int) - 1)) fun (t_18 : Int) =>
  Option.bind (idx list t_18) fun (yt_19 : Go.Proofs.Ytlljmgphgmklcaa.PMail.Mail) =>
  unMail yt_19 fun (t_19_leave : Int) (t_19_from_ : Int) (t_19_to_ : Int) (t_19_arrive : Int) =>
  Option.bind (Go.Proofs.Ytlljmgphgmklcaa.GsL9Code.P (Go.Proofs.Ytlljmgphgmklcaa.PMail.Mail.mk t_19_leave t_19_from_ t_19_to_ t_19_arrive)) fun (t_21 : Int) =>
  Option.bind (idx list (k0 : Int)) fun (yt_24 : Go.Proofs.Ytlljmgphgmklcaa.PMail.Mail) =>
  unMail yt_24 fun (t_24_leave : Int) (t_24_from_ : Int) (t_24_to_ : Int) (t_24_arrive : Int) =>
  Option.bind (Go.Proofs.Ytlljmgphgmklcaa.GsL9Code.P (Go.Proofs.Ytlljmgphgmklcaa.PMail.Mail.mk t_24_leave t_24_from_ t_24_to_ t_24_arrive)) fun (t_26 : Int) =>
  letK (decide (t_26 ≤ t_21)) fun (t_27 : Bool) =>
  appK jt_28 t_27) (appK jt_28 false))

def e0 (list : (List Go.Proofs.Ytlljmgphgmklcaa.PMail.Mail)) (s : Unit) : Option (Bool) :=
  
  letK (decide ((list.length : Int) ≤ 20)) fun (t_36 : Bool) =>
  some t_36

def P (list : (List Go.Proofs.Ytlljmgphgmklcaa.PMail.Mail)) : Option (Bool) :=
  cntK (l0 list) (list.length) 0 () (e0 list)

set_option maxRecDepth 100000 in
set_option maxHeartbeats 2000000 in
theorem C (list : (List Go.Proofs.Ytlljmgphgmklcaa.PMail.Mail)) (A0 : Option Addr) (c0 : Nat)  (w : World) (M0 : Hid (Cells w 4 A0 list.length (Go.Proofs.Ytlljmgphgmklcaa.PMail.flat list))) (N0 : Hid (list.length ≤ 9223372036854775807))  {r : Bool} (H : Hid (P list = some r)) :
    Calls Try.prog 90 #[.slice A0 list.length c0] w (Gives (.bool r) w) := by
  have HB := Lib.hid (Below.refl w.heap.size w)
  unfold P at H
  have N0o := N0.out
  go_enter Try.func90, Try.ntmps90
  go_wp2_with fail
  go_loopg [3] (list.length) (fun m_ v3_ wr => ∃ (k0 : Nat) , k0 + m_ = list.length ∧ v3_ = .int .i64 (k0 : Int) ∧ Hid (cntK (l0 list) m_ k0 () (e0 list) = some r) ∧ Hid (Below w.heap.size w wr))
  case atStart => exact ⟨0, by omega, rfl, H, HB⟩
  case round =>
    obtain ⟨k0, hkm0, rfl, H, HBwr0⟩ := hrel
    rename World => wr0
    cases gk with
    | zero =>
      obtain rfl : k0 = list.length := by omega
      have hc0 : decide (((list.length : Nat) : Int) < ((list.length : Nat) : Int)) = false := by simp
      replace H := cnt_zero H
      unfold e0 at H
      replace H := let_hid H
      obtain ⟨t_36, ht_36, H⟩ := H
      obtain rfl := ret_hid H
      go_wp2_with fail
      go_ret
      exact ⟨rfl, HBwr0.out⟩
    | succ m0 =>
      have hlt0 : k0 < list.length := by omega
      have hc0 : decide ((k0 : Int) < ((list.length : Nat) : Int)) = true := by simp; omega
      replace H := cnt_succ H
      unfold l0 at H
      go_wp2_with fail
      replace H := idx_hid H
      obtain ⟨nt_8, yt_8, et_8, lt_8, gt_8, H⟩ := H
      obtain rfl : k0 = nt_8 := by omega
      clear et_8
      obtain ⟨t_8_leave, t_8_from_, t_8_to_, t_8_arrive⟩ := yt_8
      replace H := unMail_hid H
      obtain ⟨ab_t_8, ao_t_8, zt_8, At_8, z_t_8, ct_8_0, ct_8_1, ct_8_2, ct_8_3⟩ := Go.Proofs.Ytlljmgphgmklcaa.OMail.at_ M0.out lt_8
      obtain rfl := Option.some.inj (gt_8.out.symm.trans z_t_8)
      subst At_8
      have ltt_8 := cell_lt ct_8_0
      replace ct_8_0 := cell_below HBwr0.out ct_8_0
      replace ct_8_1 := cell_below HBwr0.out ct_8_1
      replace ct_8_2 := cell_below HBwr0.out ct_8_2
      replace ct_8_3 := cell_below HBwr0.out ct_8_3
      clear z_t_8
      have b0t_8 : (0 : Int) ≤ (k0 : Int) := by omega
      have b1t_8 : (k0 : Int) < ((list.length : Nat) : Int) := by omega
      have b2t_8 : ((k0 : Int)).toNat = k0 := by omega
      have Hct_8_0 := Lib.hid ct_8_0
      replace ct_8_0 := cell_regrown ct_8_0
      have Hct_8_1 := Lib.hid ct_8_1
      replace ct_8_1 := cell_regrown ct_8_1
      have Hct_8_2 := Lib.hid ct_8_2
      replace ct_8_2 := cell_regrown ct_8_2
      have Hct_8_3 := Lib.hid ct_8_3
      replace ct_8_3 := cell_regrown ct_8_3
      replace H := bind_hid H
      obtain ⟨t_10, qt_10, H⟩ := H
      have nt_10 : ∀ d os, Calls Try.prog 143 #[.agg #[.int .i64 t_8_leave, .int .i64 t_8_from_, .int .i64 t_8_to_, .int .i64 t_8_arrive]] (Go.Sort.grow (redrawn wr0 d) os) fun e w'' => e = .returned (.bool t_10) ∧ ∃ p : Regrown, w'' = Go.Sort.grow (redrawn wr0 p.d) p.os := fun d os => Calls.regrown_of (Go.Proofs.Ytlljmgphgmklcaa.GsL9One.C ((Go.Proofs.Ytlljmgphgmklcaa.PMail.Mail.mk t_8_leave t_8_from_ t_8_to_ t_8_arrive))  _    qt_10)
      cases t_10 with
      | false =>
        replace H := let_hid H
        obtain ⟨t_11, ht_11, H⟩ := H
        obtain rfl : t_11 = true := ht_11.symm
        replace H := join_hid H
        replace H := ite_t H
        replace H := app_hid H
        refine wp_region_quiet_below (by kernel_rfl) (by kernel_rfl) ?_
        repeat (go_big_quiet_step (first | (go_at_call 143; exact nt_10 _ _)))
        refine wpQuiet_nil ?_
        intro Y4 hY4
        replace hY4 := below_class hY4
        clear nt_10
        replace ct_8_0 := Hct_8_0.out
        clear Hct_8_0
        replace ct_8_1 := Hct_8_1.out
        clear Hct_8_1
        replace ct_8_2 := Hct_8_2.out
        clear Hct_8_2
        replace ct_8_3 := Hct_8_3.out
        clear Hct_8_3
        have HBY4 := Lib.hid (Below.step HBwr0.out hY4)
        replace ct_8_0 := cell_below hY4 ct_8_0
        replace ct_8_1 := cell_below hY4 ct_8_1
        replace ct_8_2 := cell_below hY4 ct_8_2
        replace ct_8_3 := cell_below hY4 ct_8_3
        clear hY4
        replace H := ite_t H
        obtain rfl := ret_hid H
        go_wp2_with fail
        go_ret
        exact ⟨rfl, HBY4.out⟩
      | true =>
        replace H := let_hid H
        obtain ⟨t_11, ht_11, H⟩ := H
        obtain rfl : t_11 = false := ht_11.symm
        replace H := join_hid H
        replace H := ite_f H
        replace H := let_hid H
        obtain ⟨t_14, ht_14, H⟩ := H
        replace H := join_hid H
        cases t_14 with
        | false =>
          have nht_14 : ¬ (0 < k0) := by have := of_decide_eq_false ht_14; omega
          replace H := ite_f H
          replace H := app_hid H
          replace H := app_hid H
          refine wp_region_quiet_below (by kernel_rfl) (by kernel_rfl) ?_
          repeat (go_big_quiet_step (first | (go_at_call 143; exact nt_10 _ _)))
          refine wpQuiet_nil ?_
          intro Y4 hY4
          replace hY4 := below_class hY4
          clear nt_10
          replace ct_8_0 := Hct_8_0.out
          clear Hct_8_0
          replace ct_8_1 := Hct_8_1.out
          clear Hct_8_1
          replace ct_8_2 := Hct_8_2.out
          clear Hct_8_2
          replace ct_8_3 := Hct_8_3.out
          clear Hct_8_3
          have HBY4 := Lib.hid (Below.step HBwr0.out hY4)
          replace ct_8_0 := cell_below hY4 ct_8_0
          replace ct_8_1 := cell_below hY4 ct_8_1
          replace ct_8_2 := cell_below hY4 ct_8_2
          replace ct_8_3 := cell_below hY4 ct_8_3
          clear hY4
          replace H := ite_f H
          replace H := app_hid H
          go_wp2_with fail
          go_roundg m0
          case measure => omega
          case rel => exact ⟨k0 + 1, by omega, by go_num, H, HBY4⟩
        | true =>
          have nht_14 : 0 < k0 := by have := of_decide_eq_true ht_14; omega
          replace H := ite_t H
          replace H := let_hid H
          obtain ⟨t_18, ht_18, H⟩ := H
          replace H := idx_hid H
          obtain ⟨nt_19, yt_19, et_19, lt_19, gt_19, H⟩ := H
          subst et_19
          obtain ⟨t_19_leave, t_19_from_, t_19_to_, t_19_arrive⟩ := yt_19
          replace H := unMail_hid H
          obtain ⟨ab_t_19, ao_t_19, zt_19, At_19, z_t_19, ct_19_0, ct_19_1, ct_19_2, ct_19_3⟩ := Go.Proofs.Ytlljmgphgmklcaa.OMail.at_ M0.out lt_19
          obtain rfl := Option.some.inj (gt_19.out.symm.trans z_t_19)
          simp only [Option.some.injEq, Addr.mk.injEq] at At_19
          obtain ⟨rfl, rfl, _⟩ := At_19
          have ltt_19 := cell_lt ct_19_0
          replace ct_19_0 := cell_below HBwr0.out ct_19_0
          replace ct_19_1 := cell_below HBwr0.out ct_19_1
          replace ct_19_2 := cell_below HBwr0.out ct_19_2
          replace ct_19_3 := cell_below HBwr0.out ct_19_3
          clear z_t_19
          have b0t_19 : (0 : Int) ≤ (nt_19 : Int) := by omega
          have b1t_19 : (nt_19 : Int) < ((list.length : Nat) : Int) := by omega
          have b2t_19 : ((nt_19 : Int)).toNat = nt_19 := by omega
          have Hct_19_0 := Lib.hid ct_19_0
          replace ct_19_0 := cell_regrown ct_19_0
          have Hct_19_1 := Lib.hid ct_19_1
          replace ct_19_1 := cell_regrown ct_19_1
          have Hct_19_2 := Lib.hid ct_19_2
          replace ct_19_2 := cell_regrown ct_19_2
          have Hct_19_3 := Lib.hid ct_19_3
          replace ct_19_3 := cell_regrown ct_19_3
          replace H := bind_hid H
          obtain ⟨t_21, qt_21, H⟩ := H
          have nt_21 : ∀ d os, Calls Try.prog 144 #[.agg #[.int .i64 t_19_leave, .int .i64 t_19_from_, .int .i64 t_19_to_, .int .i64 t_19_arrive]] (Go.Sort.grow (redrawn wr0 d) os) fun e w'' => e = .returned (.int .i64 t_21) ∧ ∃ p : Regrown, w'' = Go.Sort.grow (redrawn wr0 p.d) p.os := fun d os => Calls.regrown_of (Go.Proofs.Ytlljmgphgmklcaa.GsL9Code.C ((Go.Proofs.Ytlljmgphgmklcaa.PMail.Mail.mk t_19_leave t_19_from_ t_19_to_ t_19_arrive))  _    qt_21)
          replace H := idx_hid H
          obtain ⟨nt_24, yt_24, et_24, lt_24, gt_24, H⟩ := H
          obtain rfl : k0 = nt_24 := by omega
          clear et_24
          obtain rfl := Option.some.inj (gt_8.out.symm.trans gt_24.out)
          clear gt_24 lt_24
          replace H := unMail_hid H
          replace H := bind_hid H
          obtain ⟨t_26, qt_26, H⟩ := H
          have nt_26 : ∀ d os, Calls Try.prog 144 #[.agg #[.int .i64 t_8_leave, .int .i64 t_8_from_, .int .i64 t_8_to_, .int .i64 t_8_arrive]] (Go.Sort.grow (redrawn wr0 d) os) fun e w'' => e = .returned (.int .i64 t_26) ∧ ∃ p : Regrown, w'' = Go.Sort.grow (redrawn wr0 p.d) p.os := fun d os => Calls.regrown_of (Go.Proofs.Ytlljmgphgmklcaa.GsL9Code.C ((Go.Proofs.Ytlljmgphgmklcaa.PMail.Mail.mk t_8_leave t_8_from_ t_8_to_ t_8_arrive))  _    qt_26)
          replace H := let_hid H
          obtain ⟨t_27, ht_27, H⟩ := H
          replace H := app_hid H
          replace H := app_hid H
          refine wp_region_quiet_below (by kernel_rfl) (by kernel_rfl) ?_
          repeat (go_big_quiet_step (first | (go_at_call 144; with_reducible exact nt_21 _ _) | (go_at_call 144; with_reducible exact nt_26 _ _) | (go_at_call 143; exact nt_10 _ _) | (go_at_call 144; exact nt_21 _ _) | (go_at_call 144; exact nt_26 _ _)))
          refine wpQuiet_nil ?_
          intro Y4 hY4
          replace hY4 := below_class hY4
          clear nt_10 nt_21 nt_26
          replace ct_8_0 := Hct_8_0.out
          clear Hct_8_0
          replace ct_8_1 := Hct_8_1.out
          clear Hct_8_1
          replace ct_8_2 := Hct_8_2.out
          clear Hct_8_2
          replace ct_8_3 := Hct_8_3.out
          clear Hct_8_3
          replace ct_19_0 := Hct_19_0.out
          clear Hct_19_0
          replace ct_19_1 := Hct_19_1.out
          clear Hct_19_1
          replace ct_19_2 := Hct_19_2.out
          clear Hct_19_2
          replace ct_19_3 := Hct_19_3.out
          clear Hct_19_3
          have HBY4 := Lib.hid (Below.step HBwr0.out hY4)
          replace ct_8_0 := cell_below hY4 ct_8_0
          replace ct_8_1 := cell_below hY4 ct_8_1
          replace ct_8_2 := cell_below hY4 ct_8_2
          replace ct_8_3 := cell_below hY4 ct_8_3
          replace ct_19_0 := cell_below hY4 ct_19_0
          replace ct_19_1 := cell_below hY4 ct_19_1
          replace ct_19_2 := cell_below hY4 ct_19_2
          replace ct_19_3 := cell_below hY4 ct_19_3
          clear hY4
          cases t_27 with
          | false =>
            replace H := ite_f H
            replace H := app_hid H
            go_wp2_with fail
            go_roundg m0
            case measure => omega
            case rel => exact ⟨k0 + 1, by omega, by go_num, H, HBY4⟩
          | true =>
            replace H := ite_t H
            obtain rfl := ret_hid H
            go_wp2_with fail
            go_ret
            exact ⟨rfl, HBY4.out⟩
end Go.Proofs.Ytlljmgphgmklcaa.GsL9Good

/- loop.example/g01062/spec.l2Day as a plain function, and the contract of the program's: where the plain one has an answer, the program has it. Conditions: slices read as lists. -/
namespace Go.Proofs.Ytlljmgphgmklcaa.GsL2Day
set_option linter.unusedVariables false
set_option linter.unusedSimpArgs false
open Go.RowKit
open Go.Proofs.Ytlljmgphgmklcaa.Rowed Go.Proofs.Ytlljmgphgmklcaa.Turn Go.Proofs.Ytlljmgphgmklcaa.Aid Go.Proofs.Ytlljmgphgmklcaa.GoP Go.Proofs.Ytlljmgphgmklcaa.GoM

def P (d_0 : Int) : Option (Bool) :=
  Option.bind (Go.Proofs.Ytlljmgphgmklcaa.GsL1In.P d_0 0 4000) fun (t_2 : Bool) =>
  some t_2

set_option maxRecDepth 100000 in
set_option maxHeartbeats 2000000 in
theorem C (d_0 : Int)   (w : World)   {r : Bool} (H : Hid (P d_0 = some r)) :
    Calls Try.prog 129 #[.int .i64 d_0] w (Gives (.bool r) w) := by
  have HB := Lib.hid (Below.refl w.heap.size w)
  unfold P at H
  go_enter Try.func129, Try.ntmps129
  replace H := bind_hid H
  obtain ⟨t_2, qt_2, H⟩ := H
  go_wp2_with fail
  go_at_call 113
  refine (Go.Proofs.Ytlljmgphgmklcaa.GsL1In.C (d_0) (0) (4000)  _    qt_2).mono ?_
  rintro e_t_2 wt_2 ⟨rfl, bt_2⟩
  have HBwt_2 := Lib.hid (Below.step HB.out bt_2)
  clear bt_2
  obtain rfl := ret_hid H
  go_wp2_with fail
  go_ret
  exact ⟨rfl, HBwt_2.out⟩
end Go.Proofs.Ytlljmgphgmklcaa.GsL2Day

/- loop.example/g01062/spec.l8Zone as a plain function, and the contract of the program's: where the plain one has an answer, the program has it. Conditions: slices read as lists. -/
namespace Go.Proofs.Ytlljmgphgmklcaa.GsL8Zone
set_option linter.unusedVariables false
set_option linter.unusedSimpArgs false
open Go.RowKit
open Go.Proofs.Ytlljmgphgmklcaa.Rowed Go.Proofs.Ytlljmgphgmklcaa.Turn Go.Proofs.Ytlljmgphgmklcaa.Aid Go.Proofs.Ytlljmgphgmklcaa.GoP Go.Proofs.Ytlljmgphgmklcaa.GoM

def P (zone : Int) : Option (Bool) :=
  Option.bind (Go.Proofs.Ytlljmgphgmklcaa.GsL1In.P zone 0 9) fun (t_2 : Bool) =>
  some t_2

set_option maxRecDepth 100000 in
set_option maxHeartbeats 2000000 in
theorem C (zone : Int)   (w : World)   {r : Bool} (H : Hid (P zone = some r)) :
    Calls Try.prog 139 #[.int .i64 zone] w (Gives (.bool r) w) := by
  have HB := Lib.hid (Below.refl w.heap.size w)
  unfold P at H
  go_enter Try.func139, Try.ntmps139
  replace H := bind_hid H
  obtain ⟨t_2, qt_2, H⟩ := H
  go_wp2_with fail
  go_at_call 113
  refine (Go.Proofs.Ytlljmgphgmklcaa.GsL1In.C (zone) (0) (9)  _    qt_2).mono ?_
  rintro e_t_2 wt_2 ⟨rfl, bt_2⟩
  have HBwt_2 := Lib.hid (Below.step HB.out bt_2)
  clear bt_2
  obtain rfl := ret_hid H
  go_wp2_with fail
  go_ret
  exact ⟨rfl, HBwt_2.out⟩
end Go.Proofs.Ytlljmgphgmklcaa.GsL8Zone

/- loop.example/g01062/spec.l8Grams as a plain function, and the contract of the program's: where the plain one has an answer, the program has it. Conditions: slices read as lists. -/
namespace Go.Proofs.Ytlljmgphgmklcaa.GsL8Grams
set_option linter.unusedVariables false
set_option linter.unusedSimpArgs false
open Go.RowKit
open Go.Proofs.Ytlljmgphgmklcaa.Rowed Go.Proofs.Ytlljmgphgmklcaa.Turn Go.Proofs.Ytlljmgphgmklcaa.Aid Go.Proofs.Ytlljmgphgmklcaa.GoP Go.Proofs.Ytlljmgphgmklcaa.GoM

def P (grams : Int) : Option (Bool) :=
  Option.bind (Go.Proofs.Ytlljmgphgmklcaa.GsL1In.P grams 1 2000) fun (t_2 : Bool) =>
  some t_2

set_option maxRecDepth 100000 in
set_option maxHeartbeats 2000000 in
theorem C (grams : Int)   (w : World)   {r : Bool} (H : Hid (P grams = some r)) :
    Calls Try.prog 134 #[.int .i64 grams] w (Gives (.bool r) w) := by
  have HB := Lib.hid (Below.refl w.heap.size w)
  unfold P at H
  go_enter Try.func134, Try.ntmps134
  replace H := bind_hid H
  obtain ⟨t_2, qt_2, H⟩ := H
  go_wp2_with fail
  go_at_call 113
  refine (Go.Proofs.Ytlljmgphgmklcaa.GsL1In.C (grams) (1) (2000)  _    qt_2).mono ?_
  rintro e_t_2 wt_2 ⟨rfl, bt_2⟩
  have HBwt_2 := Lib.hid (Below.step HB.out bt_2)
  clear bt_2
  obtain rfl := ret_hid H
  go_wp2_with fail
  go_ret
  exact ⟨rfl, HBwt_2.out⟩
end Go.Proofs.Ytlljmgphgmklcaa.GsL8Grams

/- loop.example/g01062/spec.l8Cents as a plain function, and the contract of the program's: where the plain one has an answer, the program has it. Conditions: slices read as lists. -/
namespace Go.Proofs.Ytlljmgphgmklcaa.GsL8Cents
set_option linter.unusedVariables false
set_option linter.unusedSimpArgs false
open Go.RowKit
open Go.Proofs.Ytlljmgphgmklcaa.Rowed Go.Proofs.Ytlljmgphgmklcaa.Turn Go.Proofs.Ytlljmgphgmklcaa.Aid Go.Proofs.Ytlljmgphgmklcaa.GoP Go.Proofs.Ytlljmgphgmklcaa.GoM

def P (cents : Int) : Option (Bool) :=
  Option.bind (Go.Proofs.Ytlljmgphgmklcaa.GsL1In.P cents 1 9999) fun (t_2 : Bool) =>
  some t_2

set_option maxRecDepth 100000 in
set_option maxHeartbeats 2000000 in
theorem C (cents : Int)   (w : World)   {r : Bool} (H : Hid (P cents = some r)) :
    Calls Try.prog 130 #[.int .i64 cents] w (Gives (.bool r) w) := by
  have HB := Lib.hid (Below.refl w.heap.size w)
  unfold P at H
  go_enter Try.func130, Try.ntmps130
  replace H := bind_hid H
  obtain ⟨t_2, qt_2, H⟩ := H
  go_wp2_with fail
  go_at_call 113
  refine (Go.Proofs.Ytlljmgphgmklcaa.GsL1In.C (cents) (1) (9999)  _    qt_2).mono ?_
  rintro e_t_2 wt_2 ⟨rfl, bt_2⟩
  have HBwt_2 := Lib.hid (Below.step HB.out bt_2)
  clear bt_2
  obtain rfl := ret_hid H
  go_wp2_with fail
  go_ret
  exact ⟨rfl, HBwt_2.out⟩
end Go.Proofs.Ytlljmgphgmklcaa.GsL8Cents

/- loop.example/g01062/spec.l10One as a plain function, and the contract of the program's: where the plain one has an answer, the program has it. Conditions: slices read as lists. -/
namespace Go.Proofs.Ytlljmgphgmklcaa.GsL10One
set_option linter.unusedVariables false
set_option linter.unusedSimpArgs false
open Go.RowKit
open Go.Proofs.Ytlljmgphgmklcaa.Rowed Go.Proofs.Ytlljmgphgmklcaa.Turn Go.Proofs.Ytlljmgphgmklcaa.Aid Go.Proofs.Ytlljmgphgmklcaa.GoP Go.Proofs.Ytlljmgphgmklcaa.GoM

def P (x : Go.Proofs.Ytlljmgphgmklcaa.PCover.Cover) : Option (Bool) :=
  unCover x fun (x_id : Int) (x_day : Int) (x_zone : Int) (x_grams : Int) (x_paid : Int) (x_from_ : Int) (x_to_ : Int) (x_leave : Int) (x_arrive : Int) =>
  Option.bind (Go.Proofs.Ytlljmgphgmklcaa.GsL1In.P x_id 1 999) fun (t_4 : Bool) =>
  letK (!t_4) fun (t_5 : Bool) =>
  joinK (fun (t_11 : Bool) =>
  joinK (fun (t_17 : Bool) =>
  joinK (fun (t_23 : Bool) =>
  joinK (fun (t_29 : Bool) =>
  iteK t_29
  (some false)
  (Option.bind (Go.Proofs.Ytlljmgphgmklcaa.GsL9Office.P x_from_) fun (t_33 : Bool) =>
  joinK (fun (t_38 : Bool) =>
  joinK (fun (t_45 : Bool) =>
  joinK (fun (t_50 : Bool) =>
  joinK (fun (t_57 : Bool) =>
  some t_57) fun jt_57 => iteK t_50 (Option.bind (Go.Proofs.Ytlljmgphgmklcaa.GsL1In.P x_leave 0 x_arrive) fun (t_56 : Bool) =>
  appK jt_57 t_56) (appK jt_57 false)) fun jt_50 => iteK t_45 (Option.bind (Go.Proofs.Ytlljmgphgmklcaa.GsL9Minute.P x_arrive) fun (t_49 : Bool) =>
  appK jt_50 t_49) (appK jt_50 false)) fun jt_45 => iteK t_38 (letK (x_from_ != x_to_) fun (t_44 : Bool) =>
  appK jt_45 t_44) (appK jt_45 false)) fun jt_38 => iteK t_33 (Option.bind (Go.Proofs.Ytlljmgphgmklcaa.GsL9Office.P x_to_) fun (t_37 : Bool) =>
  appK jt_38 t_37) (appK jt_38 false))) fun jt_29 => iteK t_23 (appK jt_29 true) (Option.bind (Go.Proofs.Ytlljmgphgmklcaa.GsL8Cents.P x_paid) fun (t_27 : Bool) =>
  letK (!t_27) fun (t_28 : Bool) =>
  appK jt_29 t_28)) fun jt_23 => iteK t_17 (appK jt_23 true) (Option.bind (Go.Proofs.Ytlljmgphgmklcaa.GsL8Grams.P x_grams) fun (t_21 : Bool) =>
  letK (!t_21) fun (t_22 : Bool) =>
  appK jt_23 t_22)) fun jt_17 => iteK t_11 (appK jt_17 true) (Option.bind (Go.Proofs.Ytlljmgphgmklcaa.GsL8Zone.P x_zone) fun (t_15 : Bool) =>
  letK (!t_15) fun (t_16 : Bool) =>
  appK jt_17 t_16)) fun jt_11 => iteK t_5 (appK jt_11 true) (Option.bind (Go.Proofs.Ytlljmgphgmklcaa.GsL2Day.P x_day) fun (t_9 : Bool) =>
  letK (!t_9) fun (t_10 : Bool) =>
  appK jt_11 t_10)

set_option maxRecDepth 100000 in
set_option maxHeartbeats 2000000 in
theorem C (x : Go.Proofs.Ytlljmgphgmklcaa.PCover.Cover)   (w : World)   {r : Bool} (H : Hid (P x = some r)) :
    Calls Try.prog 77 #[x.val] w (Gives (.bool r) w) := by
  have HB := Lib.hid (Below.refl w.heap.size w)
  unfold P at H
  obtain ⟨x_id, x_day, x_zone, x_grams, x_paid, x_from_, x_to_, x_leave, x_arrive⟩ := x
  replace H := unCover_hid H
  unfold Go.Proofs.Ytlljmgphgmklcaa.PCover.Cover.val
  go_enter Try.func77, Try.ntmps77
  obtain ⟨w_x_0, hw_x_0⟩ : ∃ x, w.alloc (.cells #[.int .i64 x_id, .int .i64 x_day, .int .i64 x_zone, .int .i64 x_grams, .int .i64 x_paid, .int .i64 x_from_, .int .i64 x_to_, .int .i64 x_leave, .int .i64 x_arrive] 25) = x := ⟨_, rfl⟩
  have bw_x_0 : Below w.heap.size w w_x_0 := by rw [← hw_x_0]; exact (Below.refl _ _).alloc (Nat.le_refl _) _
  have HBw_x_0 := Lib.hid (Below.step HB.out bw_x_0)
  clear bw_x_0
  have kx_0_0 : w_x_0.cell? ⟨w.heap.size, 0, none⟩ = some (.int .i64 x_id) := by rw [← hw_x_0]; exact box_new _ _ _ 0 _ rfl
  have kx_0_1 : w_x_0.cell? ⟨w.heap.size, 1, none⟩ = some (.int .i64 x_day) := by rw [← hw_x_0]; exact box_new _ _ _ 1 _ rfl
  have kx_0_2 : w_x_0.cell? ⟨w.heap.size, 2, none⟩ = some (.int .i64 x_zone) := by rw [← hw_x_0]; exact box_new _ _ _ 2 _ rfl
  have kx_0_3 : w_x_0.cell? ⟨w.heap.size, 3, none⟩ = some (.int .i64 x_grams) := by rw [← hw_x_0]; exact box_new _ _ _ 3 _ rfl
  have kx_0_4 : w_x_0.cell? ⟨w.heap.size, 4, none⟩ = some (.int .i64 x_paid) := by rw [← hw_x_0]; exact box_new _ _ _ 4 _ rfl
  have kx_0_5 : w_x_0.cell? ⟨w.heap.size, 5, none⟩ = some (.int .i64 x_from_) := by rw [← hw_x_0]; exact box_new _ _ _ 5 _ rfl
  have kx_0_6 : w_x_0.cell? ⟨w.heap.size, 6, none⟩ = some (.int .i64 x_to_) := by rw [← hw_x_0]; exact box_new _ _ _ 6 _ rfl
  have kx_0_7 : w_x_0.cell? ⟨w.heap.size, 7, none⟩ = some (.int .i64 x_leave) := by rw [← hw_x_0]; exact box_new _ _ _ 7 _ rfl
  have kx_0_8 : w_x_0.cell? ⟨w.heap.size, 8, none⟩ = some (.int .i64 x_arrive) := by rw [← hw_x_0]; exact box_new _ _ _ 8 _ rfl
  replace H := bind_hid H
  obtain ⟨t_4, qt_4, H⟩ := H
  go_wp2_with fail
  go_at_call 113
  refine (Go.Proofs.Ytlljmgphgmklcaa.GsL1In.C (x_id) (1) (999)  _    qt_4).mono ?_
  rintro e_t_4 wt_4 ⟨rfl, bt_4⟩
  have HBwt_4 := Lib.hid (Below.step HBw_x_0.out bt_4)
  replace kx_0_0 := cell_below bt_4 kx_0_0
  replace kx_0_1 := cell_below bt_4 kx_0_1
  replace kx_0_2 := cell_below bt_4 kx_0_2
  replace kx_0_3 := cell_below bt_4 kx_0_3
  replace kx_0_4 := cell_below bt_4 kx_0_4
  replace kx_0_5 := cell_below bt_4 kx_0_5
  replace kx_0_6 := cell_below bt_4 kx_0_6
  replace kx_0_7 := cell_below bt_4 kx_0_7
  replace kx_0_8 := cell_below bt_4 kx_0_8
  clear bt_4
  cases t_4 with
  | false =>
    replace H := let_hid H
    obtain ⟨t_5, ht_5, H⟩ := H
    obtain rfl : t_5 = true := ht_5.symm
    replace H := join_hid H
    replace H := ite_t H
    replace H := app_hid H
    replace H := join_hid H
    replace H := ite_t H
    replace H := app_hid H
    replace H := join_hid H
    replace H := ite_t H
    replace H := app_hid H
    replace H := join_hid H
    replace H := ite_t H
    replace H := app_hid H
    replace H := ite_t H
    obtain rfl := ret_hid H
    go_wp2_with fail
    go_ret
    exact ⟨rfl, HBwt_4.out⟩
  | true =>
    replace H := let_hid H
    obtain ⟨t_5, ht_5, H⟩ := H
    obtain rfl : t_5 = false := ht_5.symm
    replace H := join_hid H
    replace H := ite_f H
    replace H := bind_hid H
    obtain ⟨t_9, qt_9, H⟩ := H
    go_wp2_with fail
    go_at_call 129
    refine (Go.Proofs.Ytlljmgphgmklcaa.GsL2Day.C (x_day)  _    qt_9).mono ?_
    rintro e_t_9 wt_9 ⟨rfl, bt_9⟩
    have HBwt_9 := Lib.hid (Below.step HBwt_4.out bt_9)
    replace kx_0_0 := cell_below bt_9 kx_0_0
    replace kx_0_1 := cell_below bt_9 kx_0_1
    replace kx_0_2 := cell_below bt_9 kx_0_2
    replace kx_0_3 := cell_below bt_9 kx_0_3
    replace kx_0_4 := cell_below bt_9 kx_0_4
    replace kx_0_5 := cell_below bt_9 kx_0_5
    replace kx_0_6 := cell_below bt_9 kx_0_6
    replace kx_0_7 := cell_below bt_9 kx_0_7
    replace kx_0_8 := cell_below bt_9 kx_0_8
    clear bt_9
    cases t_9 with
    | false =>
      replace H := let_hid H
      obtain ⟨t_10, ht_10, H⟩ := H
      obtain rfl : t_10 = true := ht_10.symm
      replace H := app_hid H
      replace H := join_hid H
      replace H := ite_t H
      replace H := app_hid H
      replace H := join_hid H
      replace H := ite_t H
      replace H := app_hid H
      replace H := join_hid H
      replace H := ite_t H
      replace H := app_hid H
      replace H := ite_t H
      obtain rfl := ret_hid H
      go_wp2_with fail
      go_ret
      exact ⟨rfl, HBwt_9.out⟩
    | true =>
      replace H := let_hid H
      obtain ⟨t_10, ht_10, H⟩ := H
      obtain rfl : t_10 = false := ht_10.symm
      replace H := app_hid H
      replace H := join_hid H
      replace H := ite_f H
      replace H := bind_hid H
      obtain ⟨t_15, qt_15, H⟩ := H
      go_wp2_with fail
      go_at_call 139
      refine (Go.Proofs.Ytlljmgphgmklcaa.GsL8Zone.C (x_zone)  _    qt_15).mono ?_
      rintro e_t_15 wt_15 ⟨rfl, bt_15⟩
      have HBwt_15 := Lib.hid (Below.step HBwt_9.out bt_15)
      replace kx_0_0 := cell_below bt_15 kx_0_0
      replace kx_0_1 := cell_below bt_15 kx_0_1
      replace kx_0_2 := cell_below bt_15 kx_0_2
      replace kx_0_3 := cell_below bt_15 kx_0_3
      replace kx_0_4 := cell_below bt_15 kx_0_4
      replace kx_0_5 := cell_below bt_15 kx_0_5
      replace kx_0_6 := cell_below bt_15 kx_0_6
      replace kx_0_7 := cell_below bt_15 kx_0_7
      replace kx_0_8 := cell_below bt_15 kx_0_8
      clear bt_15
      cases t_15 with
      | false =>
        replace H := let_hid H
        obtain ⟨t_16, ht_16, H⟩ := H
        obtain rfl : t_16 = true := ht_16.symm
        replace H := app_hid H
        replace H := join_hid H
        replace H := ite_t H
        replace H := app_hid H
        replace H := join_hid H
        replace H := ite_t H
        replace H := app_hid H
        replace H := ite_t H
        obtain rfl := ret_hid H
        go_wp2_with fail
        go_ret
        exact ⟨rfl, HBwt_15.out⟩
      | true =>
        replace H := let_hid H
        obtain ⟨t_16, ht_16, H⟩ := H
        obtain rfl : t_16 = false := ht_16.symm
        replace H := app_hid H
        replace H := join_hid H
        replace H := ite_f H
        replace H := bind_hid H
        obtain ⟨t_21, qt_21, H⟩ := H
        go_wp2_with fail
        go_at_call 134
        refine (Go.Proofs.Ytlljmgphgmklcaa.GsL8Grams.C (x_grams)  _    qt_21).mono ?_
        rintro e_t_21 wt_21 ⟨rfl, bt_21⟩
        have HBwt_21 := Lib.hid (Below.step HBwt_15.out bt_21)
        replace kx_0_0 := cell_below bt_21 kx_0_0
        replace kx_0_1 := cell_below bt_21 kx_0_1
        replace kx_0_2 := cell_below bt_21 kx_0_2
        replace kx_0_3 := cell_below bt_21 kx_0_3
        replace kx_0_4 := cell_below bt_21 kx_0_4
        replace kx_0_5 := cell_below bt_21 kx_0_5
        replace kx_0_6 := cell_below bt_21 kx_0_6
        replace kx_0_7 := cell_below bt_21 kx_0_7
        replace kx_0_8 := cell_below bt_21 kx_0_8
        clear bt_21
        cases t_21 with
        | false =>
          replace H := let_hid H
          obtain ⟨t_22, ht_22, H⟩ := H
          obtain rfl : t_22 = true := ht_22.symm
          replace H := app_hid H
          replace H := join_hid H
          replace H := ite_t H
          replace H := app_hid H
          replace H := ite_t H
          obtain rfl := ret_hid H
          go_wp2_with fail
          go_ret
          exact ⟨rfl, HBwt_21.out⟩
        | true =>
          replace H := let_hid H
          obtain ⟨t_22, ht_22, H⟩ := H
          obtain rfl : t_22 = false := ht_22.symm
          replace H := app_hid H
          replace H := join_hid H
          replace H := ite_f H
          replace H := bind_hid H
          obtain ⟨t_27, qt_27, H⟩ := H
          go_wp2_with fail
          go_at_call 130
          refine (Go.Proofs.Ytlljmgphgmklcaa.GsL8Cents.C (x_paid)  _    qt_27).mono ?_
          rintro e_t_27 wt_27 ⟨rfl, bt_27⟩
          have HBwt_27 := Lib.hid (Below.step HBwt_21.out bt_27)
          replace kx_0_0 := cell_below bt_27 kx_0_0
          replace kx_0_1 := cell_below bt_27 kx_0_1
          replace kx_0_2 := cell_below bt_27 kx_0_2
          replace kx_0_3 := cell_below bt_27 kx_0_3
          replace kx_0_4 := cell_below bt_27 kx_0_4
          replace kx_0_5 := cell_below bt_27 kx_0_5
          replace kx_0_6 := cell_below bt_27 kx_0_6
          replace kx_0_7 := cell_below bt_27 kx_0_7
          replace kx_0_8 := cell_below bt_27 kx_0_8
          clear bt_27
          cases t_27 with
          | false =>
            replace H := let_hid H
            obtain ⟨t_28, ht_28, H⟩ := H
            obtain rfl : t_28 = true := ht_28.symm
            replace H := app_hid H
            replace H := ite_t H
            obtain rfl := ret_hid H
            go_wp2_with fail
            go_ret
            exact ⟨rfl, HBwt_27.out⟩
          | true =>
            replace H := let_hid H
            obtain ⟨t_28, ht_28, H⟩ := H
            obtain rfl : t_28 = false := ht_28.symm
            replace H := app_hid H
            replace H := ite_f H
            replace H := bind_hid H
            obtain ⟨t_33, qt_33, H⟩ := H
            go_wp2_with fail
            go_at_call 109
            refine (Go.Proofs.Ytlljmgphgmklcaa.GsL9Office.C (x_from_)  _    qt_33).mono ?_
            rintro e_t_33 wt_33 ⟨rfl, bt_33⟩
            have HBwt_33 := Lib.hid (Below.step HBwt_27.out bt_33)
            replace kx_0_0 := cell_below bt_33 kx_0_0
            replace kx_0_1 := cell_below bt_33 kx_0_1
            replace kx_0_2 := cell_below bt_33 kx_0_2
            replace kx_0_3 := cell_below bt_33 kx_0_3
            replace kx_0_4 := cell_below bt_33 kx_0_4
            replace kx_0_5 := cell_below bt_33 kx_0_5
            replace kx_0_6 := cell_below bt_33 kx_0_6
            replace kx_0_7 := cell_below bt_33 kx_0_7
            replace kx_0_8 := cell_below bt_33 kx_0_8
            clear bt_33
            replace H := join_hid H
            cases t_33 with
            | false =>
              replace H := ite_f H
              replace H := app_hid H
              replace H := join_hid H
              replace H := ite_f H
              replace H := app_hid H
              replace H := join_hid H
              replace H := ite_f H
              replace H := app_hid H
              replace H := join_hid H
              replace H := ite_f H
              replace H := app_hid H
              obtain rfl := ret_hid H
              go_wp2_with fail
              go_ret
              exact ⟨rfl, HBwt_33.out⟩
            | true =>
              replace H := ite_t H
              replace H := bind_hid H
              obtain ⟨t_37, qt_37, H⟩ := H
              go_wp2_with fail
              go_at_call 109
              refine (Go.Proofs.Ytlljmgphgmklcaa.GsL9Office.C (x_to_)  _    qt_37).mono ?_
              rintro e_t_37 wt_37 ⟨rfl, bt_37⟩
              have HBwt_37 := Lib.hid (Below.step HBwt_33.out bt_37)
              replace kx_0_0 := cell_below bt_37 kx_0_0
              replace kx_0_1 := cell_below bt_37 kx_0_1
              replace kx_0_2 := cell_below bt_37 kx_0_2
              replace kx_0_3 := cell_below bt_37 kx_0_3
              replace kx_0_4 := cell_below bt_37 kx_0_4
              replace kx_0_5 := cell_below bt_37 kx_0_5
              replace kx_0_6 := cell_below bt_37 kx_0_6
              replace kx_0_7 := cell_below bt_37 kx_0_7
              replace kx_0_8 := cell_below bt_37 kx_0_8
              clear bt_37
              replace H := app_hid H
              replace H := join_hid H
              cases t_37 with
              | false =>
                replace H := ite_f H
                replace H := app_hid H
                replace H := join_hid H
                replace H := ite_f H
                replace H := app_hid H
                replace H := join_hid H
                replace H := ite_f H
                replace H := app_hid H
                obtain rfl := ret_hid H
                go_wp2_with fail
                go_ret
                exact ⟨rfl, HBwt_37.out⟩
              | true =>
                replace H := ite_t H
                replace H := let_hid H
                obtain ⟨t_44, ht_44, H⟩ := H
                replace H := app_hid H
                replace H := join_hid H
                cases t_44 with
                | false =>
                  replace H := ite_f H
                  replace H := app_hid H
                  replace H := join_hid H
                  replace H := ite_f H
                  replace H := app_hid H
                  obtain rfl := ret_hid H
                  go_wp2_with fail
                  go_ret
                  exact ⟨rfl, HBwt_37.out⟩
                | true =>
                  replace H := ite_t H
                  replace H := bind_hid H
                  obtain ⟨t_49, qt_49, H⟩ := H
                  go_wp2_with fail
                  go_at_call 140
                  refine (Go.Proofs.Ytlljmgphgmklcaa.GsL9Minute.C (x_arrive)  _    qt_49).mono ?_
                  rintro e_t_49 wt_49 ⟨rfl, bt_49⟩
                  have HBwt_49 := Lib.hid (Below.step HBwt_37.out bt_49)
                  replace kx_0_0 := cell_below bt_49 kx_0_0
                  replace kx_0_1 := cell_below bt_49 kx_0_1
                  replace kx_0_2 := cell_below bt_49 kx_0_2
                  replace kx_0_3 := cell_below bt_49 kx_0_3
                  replace kx_0_4 := cell_below bt_49 kx_0_4
                  replace kx_0_5 := cell_below bt_49 kx_0_5
                  replace kx_0_6 := cell_below bt_49 kx_0_6
                  replace kx_0_7 := cell_below bt_49 kx_0_7
                  replace kx_0_8 := cell_below bt_49 kx_0_8
                  clear bt_49
                  replace H := app_hid H
                  replace H := join_hid H
                  cases t_49 with
                  | false =>
                    replace H := ite_f H
                    replace H := app_hid H
                    obtain rfl := ret_hid H
                    go_wp2_with fail
                    go_ret
                    exact ⟨rfl, HBwt_49.out⟩
                  | true =>
                    replace H := ite_t H
                    replace H := bind_hid H
                    obtain ⟨t_56, qt_56, H⟩ := H
                    go_wp2_with fail
                    go_at_call 113
                    refine (Go.Proofs.Ytlljmgphgmklcaa.GsL1In.C (x_leave) (0) (x_arrive)  _    qt_56).mono ?_
                    rintro e_t_56 wt_56 ⟨rfl, bt_56⟩
                    have HBwt_56 := Lib.hid (Below.step HBwt_49.out bt_56)
                    replace kx_0_0 := cell_below bt_56 kx_0_0
                    replace kx_0_1 := cell_below bt_56 kx_0_1
                    replace kx_0_2 := cell_below bt_56 kx_0_2
                    replace kx_0_3 := cell_below bt_56 kx_0_3
                    replace kx_0_4 := cell_below bt_56 kx_0_4
                    replace kx_0_5 := cell_below bt_56 kx_0_5
                    replace kx_0_6 := cell_below bt_56 kx_0_6
                    replace kx_0_7 := cell_below bt_56 kx_0_7
                    replace kx_0_8 := cell_below bt_56 kx_0_8
                    clear bt_56
                    replace H := app_hid H
                    obtain rfl := ret_hid H
                    go_wp2_with fail
                    go_ret
                    exact ⟨rfl, HBwt_56.out⟩
end Go.Proofs.Ytlljmgphgmklcaa.GsL10One

/- loop.example/g01062/spec.l10Good as a plain function, and the contract of the program's: where the plain one has an answer, the program has it. Conditions: slices read as lists. -/
namespace Go.Proofs.Ytlljmgphgmklcaa.GsL10Good
set_option linter.unusedVariables false
set_option linter.unusedSimpArgs false
open Go.RowKit
open Go.Proofs.Ytlljmgphgmklcaa.Rowed Go.Proofs.Ytlljmgphgmklcaa.Turn Go.Proofs.Ytlljmgphgmklcaa.Aid Go.Proofs.Ytlljmgphgmklcaa.GoP Go.Proofs.Ytlljmgphgmklcaa.GoM

def l0 (list : (List Go.Proofs.Ytlljmgphgmklcaa.PCover.Cover)) (k0 : Nat) (s : Unit) (nx0 bk0 : Unit → Option (Bool)) : Option (Bool) :=
  
  Option.bind (idx list (k0 : Int)) fun (yt_8 : Go.Proofs.Ytlljmgphgmklcaa.PCover.Cover) =>
  unCover yt_8 fun (t_8_id : Int) (t_8_day : Int) (t_8_zone : Int) (t_8_grams : Int) (t_8_paid : Int) (t_8_from_ : Int) (t_8_to_ : Int) (t_8_leave : Int) (t_8_arrive : Int) =>
  Option.bind (Go.Proofs.Ytlljmgphgmklcaa.GsL10One.P (Go.Proofs.Ytlljmgphgmklcaa.PCover.Cover.mk t_8_id t_8_day t_8_zone t_8_grams t_8_paid t_8_from_ t_8_to_ t_8_leave t_8_arrive)) fun (t_10 : Bool) =>
  letK (!t_10) fun (t_11 : Bool) =>
  joinK (fun (t_29 : Bool) =>
  iteK t_29
  (some false)
  (appK nx0 ())) fun jt_29 => iteK t_11 (appK jt_29 true) (letK (decide (0 < (k0 : Int))) fun (t_14 : Bool) =>
  joinK (fun (t_28 : Bool) =>
  appK jt_29 t_28) fun jt_28 => iteK t_14 (letK (IntKind.i64.wrap ((k0 : Int) - 1)) fun (t_18 : Int) =>
  Option.bind (idx list t_18) fun (yt_19 : Go.Proofs.Ytlljmgphgmklcaa.PCover.Cover) =>
  unCover yt_19 fun (t_19_id : Int) (t_19_day : Int) (t_19_zone : Int) (t_19_grams : Int) (t_19_paid : Int) (t_19_from_ : Int) (t_19_to_ : Int) (t_19_leave : Int) (t_19_arrive : Int) =>
  Option.bind (idx list (k0 : Int)) fun (yt_24 : Go.Proofs.Ytlljmgphgmklcaa.PCover.Cover) =>
  unCover yt_24 fun (t_24_id : Int) (t_24_day : Int) (t_24_zone : Int) (t_24_grams : Int) (t_24_paid : Int) (t_24_from_ : Int) (t_24_to_ : Int) (t_24_leave : Int) (t_24_arrive : Int) =>
  letK (decide (t_24_id ≤ t_19_id)) fun (t_27 : Bool) =>
  appK jt_28 t_27) (appK jt_28 false))

def e0 (list : (List Go.Proofs.Ytlljmgphgmklcaa.PCover.Cover)) (s : Unit) : Option (Bool) :=
  
  letK (decide ((list.length : Int) ≤ 10)) fun (t_36 : Bool) =>
  some t_36

def P (list : (List Go.Proofs.Ytlljmgphgmklcaa.PCover.Cover)) : Option (Bool) :=
  cntK (l0 list) (list.length) 0 () (e0 list)

set_option maxRecDepth 100000 in
set_option maxHeartbeats 2000000 in
theorem C (list : (List Go.Proofs.Ytlljmgphgmklcaa.PCover.Cover)) (A0 : Option Addr) (c0 : Nat)  (w : World) (M0 : Hid (Cells w 9 A0 list.length (Go.Proofs.Ytlljmgphgmklcaa.PCover.flat list))) (N0 : Hid (list.length ≤ 9223372036854775807))  {r : Bool} (H : Hid (P list = some r)) :
    Calls Try.prog 85 #[.slice A0 list.length c0] w (Gives (.bool r) w) := by
  have HB := Lib.hid (Below.refl w.heap.size w)
  unfold P at H
  have N0o := N0.out
  go_enter Try.func85, Try.ntmps85
  go_wp2_with fail
  go_loopg [3] (list.length) (fun m_ v3_ wr => ∃ (k0 : Nat) , k0 + m_ = list.length ∧ v3_ = .int .i64 (k0 : Int) ∧ Hid (cntK (l0 list) m_ k0 () (e0 list) = some r) ∧ Hid (Below w.heap.size w wr))
  case atStart => exact ⟨0, by omega, rfl, H, HB⟩
  case round =>
    obtain ⟨k0, hkm0, rfl, H, HBwr0⟩ := hrel
    rename World => wr0
    cases gk with
    | zero =>
      obtain rfl : k0 = list.length := by omega
      have hc0 : decide (((list.length : Nat) : Int) < ((list.length : Nat) : Int)) = false := by simp
      replace H := cnt_zero H
      unfold e0 at H
      replace H := let_hid H
      obtain ⟨t_36, ht_36, H⟩ := H
      obtain rfl := ret_hid H
      go_wp2_with fail
      go_ret
      exact ⟨rfl, HBwr0.out⟩
    | succ m0 =>
      have hlt0 : k0 < list.length := by omega
      have hc0 : decide ((k0 : Int) < ((list.length : Nat) : Int)) = true := by simp; omega
      replace H := cnt_succ H
      unfold l0 at H
      go_wp2_with fail
      replace H := idx_hid H
      obtain ⟨nt_8, yt_8, et_8, lt_8, gt_8, H⟩ := H
      obtain rfl : k0 = nt_8 := by omega
      clear et_8
      obtain ⟨t_8_id, t_8_day, t_8_zone, t_8_grams, t_8_paid, t_8_from_, t_8_to_, t_8_leave, t_8_arrive⟩ := yt_8
      replace H := unCover_hid H
      obtain ⟨ab_t_8, ao_t_8, zt_8, At_8, z_t_8, ct_8_0, ct_8_1, ct_8_2, ct_8_3, ct_8_4, ct_8_5, ct_8_6, ct_8_7, ct_8_8⟩ := Go.Proofs.Ytlljmgphgmklcaa.OCover.at_ M0.out lt_8
      obtain rfl := Option.some.inj (gt_8.out.symm.trans z_t_8)
      subst At_8
      have ltt_8 := cell_lt ct_8_0
      replace ct_8_0 := cell_below HBwr0.out ct_8_0
      replace ct_8_1 := cell_below HBwr0.out ct_8_1
      replace ct_8_2 := cell_below HBwr0.out ct_8_2
      replace ct_8_3 := cell_below HBwr0.out ct_8_3
      replace ct_8_4 := cell_below HBwr0.out ct_8_4
      replace ct_8_5 := cell_below HBwr0.out ct_8_5
      replace ct_8_6 := cell_below HBwr0.out ct_8_6
      replace ct_8_7 := cell_below HBwr0.out ct_8_7
      replace ct_8_8 := cell_below HBwr0.out ct_8_8
      clear z_t_8
      have b0t_8 : (0 : Int) ≤ (k0 : Int) := by omega
      have b1t_8 : (k0 : Int) < ((list.length : Nat) : Int) := by omega
      have b2t_8 : ((k0 : Int)).toNat = k0 := by omega
      have Hct_8_0 := Lib.hid ct_8_0
      replace ct_8_0 := cell_regrown ct_8_0
      have Hct_8_1 := Lib.hid ct_8_1
      replace ct_8_1 := cell_regrown ct_8_1
      have Hct_8_2 := Lib.hid ct_8_2
      replace ct_8_2 := cell_regrown ct_8_2
      have Hct_8_3 := Lib.hid ct_8_3
      replace ct_8_3 := cell_regrown ct_8_3
      have Hct_8_4 := Lib.hid ct_8_4
      replace ct_8_4 := cell_regrown ct_8_4
      have Hct_8_5 := Lib.hid ct_8_5
      replace ct_8_5 := cell_regrown ct_8_5
      have Hct_8_6 := Lib.hid ct_8_6
      replace ct_8_6 := cell_regrown ct_8_6
      have Hct_8_7 := Lib.hid ct_8_7
      replace ct_8_7 := cell_regrown ct_8_7
      have Hct_8_8 := Lib.hid ct_8_8
      replace ct_8_8 := cell_regrown ct_8_8
      replace H := bind_hid H
      obtain ⟨t_10, qt_10, H⟩ := H
      have nt_10 : ∀ d os, Calls Try.prog 77 #[.agg #[.int .i64 t_8_id, .int .i64 t_8_day, .int .i64 t_8_zone, .int .i64 t_8_grams, .int .i64 t_8_paid, .int .i64 t_8_from_, .int .i64 t_8_to_, .int .i64 t_8_leave, .int .i64 t_8_arrive]] (Go.Sort.grow (redrawn wr0 d) os) fun e w'' => e = .returned (.bool t_10) ∧ ∃ p : Regrown, w'' = Go.Sort.grow (redrawn wr0 p.d) p.os := fun d os => Calls.regrown_of (Go.Proofs.Ytlljmgphgmklcaa.GsL10One.C ((Go.Proofs.Ytlljmgphgmklcaa.PCover.Cover.mk t_8_id t_8_day t_8_zone t_8_grams t_8_paid t_8_from_ t_8_to_ t_8_leave t_8_arrive))  _    qt_10)
      cases t_10 with
      | false =>
        replace H := let_hid H
        obtain ⟨t_11, ht_11, H⟩ := H
        obtain rfl : t_11 = true := ht_11.symm
        replace H := join_hid H
        replace H := ite_t H
        replace H := app_hid H
        refine wp_region_quiet_below (by kernel_rfl) (by kernel_rfl) ?_
        repeat (go_big_quiet_step (first | (go_at_call 77; exact nt_10 _ _)))
        refine wpQuiet_nil ?_
        intro Y4 hY4
        replace hY4 := below_class hY4
        clear nt_10
        replace ct_8_0 := Hct_8_0.out
        clear Hct_8_0
        replace ct_8_1 := Hct_8_1.out
        clear Hct_8_1
        replace ct_8_2 := Hct_8_2.out
        clear Hct_8_2
        replace ct_8_3 := Hct_8_3.out
        clear Hct_8_3
        replace ct_8_4 := Hct_8_4.out
        clear Hct_8_4
        replace ct_8_5 := Hct_8_5.out
        clear Hct_8_5
        replace ct_8_6 := Hct_8_6.out
        clear Hct_8_6
        replace ct_8_7 := Hct_8_7.out
        clear Hct_8_7
        replace ct_8_8 := Hct_8_8.out
        clear Hct_8_8
        have HBY4 := Lib.hid (Below.step HBwr0.out hY4)
        replace ct_8_0 := cell_below hY4 ct_8_0
        replace ct_8_1 := cell_below hY4 ct_8_1
        replace ct_8_2 := cell_below hY4 ct_8_2
        replace ct_8_3 := cell_below hY4 ct_8_3
        replace ct_8_4 := cell_below hY4 ct_8_4
        replace ct_8_5 := cell_below hY4 ct_8_5
        replace ct_8_6 := cell_below hY4 ct_8_6
        replace ct_8_7 := cell_below hY4 ct_8_7
        replace ct_8_8 := cell_below hY4 ct_8_8
        clear hY4
        replace H := ite_t H
        obtain rfl := ret_hid H
        go_wp2_with fail
        go_ret
        exact ⟨rfl, HBY4.out⟩
      | true =>
        replace H := let_hid H
        obtain ⟨t_11, ht_11, H⟩ := H
        obtain rfl : t_11 = false := ht_11.symm
        replace H := join_hid H
        replace H := ite_f H
        replace H := let_hid H
        obtain ⟨t_14, ht_14, H⟩ := H
        replace H := join_hid H
        cases t_14 with
        | false =>
          have nht_14 : ¬ (0 < k0) := by have := of_decide_eq_false ht_14; omega
          replace H := ite_f H
          replace H := app_hid H
          replace H := app_hid H
          refine wp_region_quiet_below (by kernel_rfl) (by kernel_rfl) ?_
          repeat (go_big_quiet_step (first | (go_at_call 77; exact nt_10 _ _)))
          refine wpQuiet_nil ?_
          intro Y4 hY4
          replace hY4 := below_class hY4
          clear nt_10
          replace ct_8_0 := Hct_8_0.out
          clear Hct_8_0
          replace ct_8_1 := Hct_8_1.out
          clear Hct_8_1
          replace ct_8_2 := Hct_8_2.out
          clear Hct_8_2
          replace ct_8_3 := Hct_8_3.out
          clear Hct_8_3
          replace ct_8_4 := Hct_8_4.out
          clear Hct_8_4
          replace ct_8_5 := Hct_8_5.out
          clear Hct_8_5
          replace ct_8_6 := Hct_8_6.out
          clear Hct_8_6
          replace ct_8_7 := Hct_8_7.out
          clear Hct_8_7
          replace ct_8_8 := Hct_8_8.out
          clear Hct_8_8
          have HBY4 := Lib.hid (Below.step HBwr0.out hY4)
          replace ct_8_0 := cell_below hY4 ct_8_0
          replace ct_8_1 := cell_below hY4 ct_8_1
          replace ct_8_2 := cell_below hY4 ct_8_2
          replace ct_8_3 := cell_below hY4 ct_8_3
          replace ct_8_4 := cell_below hY4 ct_8_4
          replace ct_8_5 := cell_below hY4 ct_8_5
          replace ct_8_6 := cell_below hY4 ct_8_6
          replace ct_8_7 := cell_below hY4 ct_8_7
          replace ct_8_8 := cell_below hY4 ct_8_8
          clear hY4
          replace H := ite_f H
          replace H := app_hid H
          go_wp2_with fail
          go_roundg m0
          case measure => omega
          case rel => exact ⟨k0 + 1, by omega, by go_num, H, HBY4⟩
        | true =>
          have nht_14 : 0 < k0 := by have := of_decide_eq_true ht_14; omega
          replace H := ite_t H
          replace H := let_hid H
          obtain ⟨t_18, ht_18, H⟩ := H
          replace H := idx_hid H
          obtain ⟨nt_19, yt_19, et_19, lt_19, gt_19, H⟩ := H
          subst et_19
          obtain ⟨t_19_id, t_19_day, t_19_zone, t_19_grams, t_19_paid, t_19_from_, t_19_to_, t_19_leave, t_19_arrive⟩ := yt_19
          replace H := unCover_hid H
          obtain ⟨ab_t_19, ao_t_19, zt_19, At_19, z_t_19, ct_19_0, ct_19_1, ct_19_2, ct_19_3, ct_19_4, ct_19_5, ct_19_6, ct_19_7, ct_19_8⟩ := Go.Proofs.Ytlljmgphgmklcaa.OCover.at_ M0.out lt_19
          obtain rfl := Option.some.inj (gt_19.out.symm.trans z_t_19)
          simp only [Option.some.injEq, Addr.mk.injEq] at At_19
          obtain ⟨rfl, rfl, _⟩ := At_19
          have ltt_19 := cell_lt ct_19_0
          replace ct_19_0 := cell_below HBwr0.out ct_19_0
          replace ct_19_1 := cell_below HBwr0.out ct_19_1
          replace ct_19_2 := cell_below HBwr0.out ct_19_2
          replace ct_19_3 := cell_below HBwr0.out ct_19_3
          replace ct_19_4 := cell_below HBwr0.out ct_19_4
          replace ct_19_5 := cell_below HBwr0.out ct_19_5
          replace ct_19_6 := cell_below HBwr0.out ct_19_6
          replace ct_19_7 := cell_below HBwr0.out ct_19_7
          replace ct_19_8 := cell_below HBwr0.out ct_19_8
          clear z_t_19
          have b0t_19 : (0 : Int) ≤ (nt_19 : Int) := by omega
          have b1t_19 : (nt_19 : Int) < ((list.length : Nat) : Int) := by omega
          have b2t_19 : ((nt_19 : Int)).toNat = nt_19 := by omega
          have Hct_19_0 := Lib.hid ct_19_0
          replace ct_19_0 := cell_regrown ct_19_0
          have Hct_19_1 := Lib.hid ct_19_1
          replace ct_19_1 := cell_regrown ct_19_1
          have Hct_19_2 := Lib.hid ct_19_2
          replace ct_19_2 := cell_regrown ct_19_2
          have Hct_19_3 := Lib.hid ct_19_3
          replace ct_19_3 := cell_regrown ct_19_3
          have Hct_19_4 := Lib.hid ct_19_4
          replace ct_19_4 := cell_regrown ct_19_4
          have Hct_19_5 := Lib.hid ct_19_5
          replace ct_19_5 := cell_regrown ct_19_5
          have Hct_19_6 := Lib.hid ct_19_6
          replace ct_19_6 := cell_regrown ct_19_6
          have Hct_19_7 := Lib.hid ct_19_7
          replace ct_19_7 := cell_regrown ct_19_7
          have Hct_19_8 := Lib.hid ct_19_8
          replace ct_19_8 := cell_regrown ct_19_8
          replace H := idx_hid H
          obtain ⟨nt_24, yt_24, et_24, lt_24, gt_24, H⟩ := H
          obtain rfl : k0 = nt_24 := by omega
          clear et_24
          obtain rfl := Option.some.inj (gt_8.out.symm.trans gt_24.out)
          clear gt_24 lt_24
          replace H := unCover_hid H
          replace H := let_hid H
          obtain ⟨t_27, ht_27, H⟩ := H
          replace H := app_hid H
          replace H := app_hid H
          refine wp_region_quiet_below (by kernel_rfl) (by kernel_rfl) ?_
          repeat (go_big_quiet_step (first | (go_at_call 77; exact nt_10 _ _)))
          refine wpQuiet_nil ?_
          intro Y4 hY4
          replace hY4 := below_class hY4
          clear nt_10
          replace ct_8_0 := Hct_8_0.out
          clear Hct_8_0
          replace ct_8_1 := Hct_8_1.out
          clear Hct_8_1
          replace ct_8_2 := Hct_8_2.out
          clear Hct_8_2
          replace ct_8_3 := Hct_8_3.out
          clear Hct_8_3
          replace ct_8_4 := Hct_8_4.out
          clear Hct_8_4
          replace ct_8_5 := Hct_8_5.out
          clear Hct_8_5
          replace ct_8_6 := Hct_8_6.out
          clear Hct_8_6
          replace ct_8_7 := Hct_8_7.out
          clear Hct_8_7
          replace ct_8_8 := Hct_8_8.out
          clear Hct_8_8
          replace ct_19_0 := Hct_19_0.out
          clear Hct_19_0
          replace ct_19_1 := Hct_19_1.out
          clear Hct_19_1
          replace ct_19_2 := Hct_19_2.out
          clear Hct_19_2
          replace ct_19_3 := Hct_19_3.out
          clear Hct_19_3
          replace ct_19_4 := Hct_19_4.out
          clear Hct_19_4
          replace ct_19_5 := Hct_19_5.out
          clear Hct_19_5
          replace ct_19_6 := Hct_19_6.out
          clear Hct_19_6
          replace ct_19_7 := Hct_19_7.out
          clear Hct_19_7
          replace ct_19_8 := Hct_19_8.out
          clear Hct_19_8
          have HBY4 := Lib.hid (Below.step HBwr0.out hY4)
          replace ct_8_0 := cell_below hY4 ct_8_0
          replace ct_8_1 := cell_below hY4 ct_8_1
          replace ct_8_2 := cell_below hY4 ct_8_2
          replace ct_8_3 := cell_below hY4 ct_8_3
          replace ct_8_4 := cell_below hY4 ct_8_4
          replace ct_8_5 := cell_below hY4 ct_8_5
          replace ct_8_6 := cell_below hY4 ct_8_6
          replace ct_8_7 := cell_below hY4 ct_8_7
          replace ct_8_8 := cell_below hY4 ct_8_8
          replace ct_19_0 := cell_below hY4 ct_19_0
          replace ct_19_1 := cell_below hY4 ct_19_1
          replace ct_19_2 := cell_below hY4 ct_19_2
          replace ct_19_3 := cell_below hY4 ct_19_3
          replace ct_19_4 := cell_below hY4 ct_19_4
          replace ct_19_5 := cell_below hY4 ct_19_5
          replace ct_19_6 := cell_below hY4 ct_19_6
          replace ct_19_7 := cell_below hY4 ct_19_7
          replace ct_19_8 := cell_below hY4 ct_19_8
          clear hY4
          cases t_27 with
          | false =>
            replace H := ite_f H
            replace H := app_hid H
            go_wp2_with fail
            go_roundg m0
            case measure => omega
            case rel => exact ⟨k0 + 1, by omega, by go_num, H, HBY4⟩
          | true =>
            replace H := ite_t H
            obtain rfl := ret_hid H
            go_wp2_with fail
            go_ret
            exact ⟨rfl, HBY4.out⟩
end Go.Proofs.Ytlljmgphgmklcaa.GsL10Good

/- loop.example/g01062/spec.l9Asked as a plain function, and the contract of the program's: where the plain one has an answer, the program has it. Conditions: slices read as lists. -/
namespace Go.Proofs.Ytlljmgphgmklcaa.GsL9Asked
set_option linter.unusedVariables false
set_option linter.unusedSimpArgs false
open Go.RowKit
open Go.Proofs.Ytlljmgphgmklcaa.Rowed Go.Proofs.Ytlljmgphgmklcaa.Turn Go.Proofs.Ytlljmgphgmklcaa.Aid Go.Proofs.Ytlljmgphgmklcaa.GoP Go.Proofs.Ytlljmgphgmklcaa.GoM

def P (list : (List Go.Proofs.Ytlljmgphgmklcaa.PMail.Mail)) (from_1 : Int) (minute : Int) : Option (Bool) :=
  Option.bind (Go.Proofs.Ytlljmgphgmklcaa.GsL9Good.P list) fun (t_2 : Bool) =>
  joinK (fun (t_6 : Bool) =>
  joinK (fun (t_10 : Bool) =>
  some t_10) fun jt_10 => iteK t_6 (Option.bind (Go.Proofs.Ytlljmgphgmklcaa.GsL9Minute.P minute) fun (t_9 : Bool) =>
  appK jt_10 t_9) (appK jt_10 false)) fun jt_6 => iteK t_2 (Option.bind (Go.Proofs.Ytlljmgphgmklcaa.GsL9Office.P from_1) fun (t_5 : Bool) =>
  appK jt_6 t_5) (appK jt_6 false)

set_option maxRecDepth 100000 in
set_option maxHeartbeats 2000000 in
theorem C (list : (List Go.Proofs.Ytlljmgphgmklcaa.PMail.Mail)) (from_1 : Int) (minute : Int) (A0 : Option Addr) (c0 : Nat)  (w : World) (M0 : Hid (Cells w 4 A0 list.length (Go.Proofs.Ytlljmgphgmklcaa.PMail.flat list))) (N0 : Hid (list.length ≤ 9223372036854775807))  {r : Bool} (H : Hid (P list from_1 minute = some r)) :
    Calls Try.prog 153 #[.slice A0 list.length c0, .int .i64 from_1, .int .i64 minute] w (Gives (.bool r) w) := by
  have HB := Lib.hid (Below.refl w.heap.size w)
  unfold P at H
  have N0o := N0.out
  go_enter Try.func153, Try.ntmps153
  replace H := bind_hid H
  obtain ⟨t_2, qt_2, H⟩ := H
  go_wp2_with fail
  go_at_call 90
  refine (Go.Proofs.Ytlljmgphgmklcaa.GsL9Good.C (list) A0 c0 _   (Lib.hid (Cells.below M0.out HB.out)) N0 qt_2).mono ?_
  rintro e_t_2 wt_2 ⟨rfl, bt_2⟩
  have HBwt_2 := Lib.hid (Below.step HB.out bt_2)
  clear bt_2
  replace H := join_hid H
  cases t_2 with
  | false =>
    replace H := ite_f H
    replace H := app_hid H
    replace H := join_hid H
    replace H := ite_f H
    replace H := app_hid H
    obtain rfl := ret_hid H
    go_wp2_with fail
    go_ret
    exact ⟨rfl, HBwt_2.out⟩
  | true =>
    replace H := ite_t H
    replace H := bind_hid H
    obtain ⟨t_5, qt_5, H⟩ := H
    go_wp2_with fail
    go_at_call 109
    refine (Go.Proofs.Ytlljmgphgmklcaa.GsL9Office.C (from_1)  _    qt_5).mono ?_
    rintro e_t_5 wt_5 ⟨rfl, bt_5⟩
    have HBwt_5 := Lib.hid (Below.step HBwt_2.out bt_5)
    clear bt_5
    replace H := app_hid H
    replace H := join_hid H
    cases t_5 with
    | false =>
      replace H := ite_f H
      replace H := app_hid H
      obtain rfl := ret_hid H
      go_wp2_with fail
      go_ret
      exact ⟨rfl, HBwt_5.out⟩
    | true =>
      replace H := ite_t H
      replace H := bind_hid H
      obtain ⟨t_9, qt_9, H⟩ := H
      go_wp2_with fail
      go_at_call 140
      refine (Go.Proofs.Ytlljmgphgmklcaa.GsL9Minute.C (minute)  _    qt_9).mono ?_
      rintro e_t_9 wt_9 ⟨rfl, bt_9⟩
      have HBwt_9 := Lib.hid (Below.step HBwt_5.out bt_9)
      clear bt_9
      replace H := app_hid H
      obtain rfl := ret_hid H
      go_wp2_with fail
      go_ret
      exact ⟨rfl, HBwt_9.out⟩
end Go.Proofs.Ytlljmgphgmklcaa.GsL9Asked

/- loop.example/g01062/spec.l1Least as a plain function, and the contract of the program's: where the plain one has an answer, the program has it. Conditions: slices read as lists. -/
namespace Go.Proofs.Ytlljmgphgmklcaa.GsL1Least
set_option linter.unusedVariables false
set_option linter.unusedSimpArgs false
open Go.RowKit
open Go.Proofs.Ytlljmgphgmklcaa.Rowed Go.Proofs.Ytlljmgphgmklcaa.Turn Go.Proofs.Ytlljmgphgmklcaa.Aid Go.Proofs.Ytlljmgphgmklcaa.GoP Go.Proofs.Ytlljmgphgmklcaa.GoM

def P (a : Int) (b : Int) : Option (Int) :=
  letK (decide (a < b)) fun (t_3 : Bool) =>
  iteK t_3
  (some a)
  (some b)

set_option maxRecDepth 100000 in
set_option maxHeartbeats 2000000 in
theorem C (a : Int) (b : Int)   (w : World)   {r : Int} (H : Hid (P a b = some r)) :
    Calls Try.prog 162 #[.int .i64 a, .int .i64 b] w (Gives (.int .i64 r) w) := by
  have HB := Lib.hid (Below.refl w.heap.size w)
  unfold P at H
  go_enter Try.func162, Try.ntmps162
  replace H := let_hid H
  obtain ⟨t_3, ht_3, H⟩ := H
  cases t_3 with
  | false =>
    replace H := ite_f H
    obtain rfl := ret_hid H
    go_wp2_with fail
    go_ret
    exact ⟨rfl, HB.out⟩
  | true =>
    replace H := ite_t H
    obtain rfl := ret_hid H
    go_wp2_with fail
    go_ret
    exact ⟨rfl, HB.out⟩

set_option maxRecDepth 100000 in
set_option maxHeartbeats 2000000 in
theorem C0 (a : Int) (b : Int)   (w : World)   {r : Int} (H : Hid (P a b = some r)) :
    Calls Try.prog 162 #[.int .i64 a, .int .i64 b] w (fun e w'' => e = .returned (.int .i64 r) ∧ w'' = w) := by
  have HB := Lib.hid (Below.refl w.heap.size w)
  unfold P at H
  go_enter Try.func162, Try.ntmps162
  replace H := let_hid H
  obtain ⟨t_3, ht_3, H⟩ := H
  cases t_3 with
  | false =>
    replace H := ite_f H
    obtain rfl := ret_hid H
    go_wp2_with fail
    go_ret
    exact ⟨rfl, rfl⟩
  | true =>
    replace H := ite_t H
    obtain rfl := ret_hid H
    go_wp2_with fail
    go_ret
    exact ⟨rfl, rfl⟩
end Go.Proofs.Ytlljmgphgmklcaa.GsL1Least

/- loop.example/g01062/spec.l9Times as a plain function, and the contract of the program's: where the plain one has an answer, the program has it. Conditions: slices read as lists. -/
namespace Go.Proofs.Ytlljmgphgmklcaa.GsL9Times
set_option linter.unusedVariables false
set_option linter.unusedSimpArgs false
open Go.RowKit
open Go.Proofs.Ytlljmgphgmklcaa.Rowed Go.Proofs.Ytlljmgphgmklcaa.Turn Go.Proofs.Ytlljmgphgmklcaa.Aid Go.Proofs.Ytlljmgphgmklcaa.GoP Go.Proofs.Ytlljmgphgmklcaa.GoM

def l0  (k0 : Nat) (s : (List Int)) (nx0 bk0 : (List Int) → Option ((List Int))) : Option ((List Int)) :=
  letK s fun out_7l0 =>
  Option.bind (idx out_7l0 (k0 : Int)) fun (yt_10 : Int) =>
  letK (out_7l0.set k0 10000) fun (l11_11 : (List Int)) =>
  appK nx0 (l11_11)

def l1 (list : (List Go.Proofs.Ytlljmgphgmklcaa.PMail.Mail)) (k1 : Nat) (s : (List Int)) (nx1 bk1 : (List Int) → Option ((List Int))) : Option ((List Int)) :=
  letK s fun out_7l1 =>
  Option.bind (idx list (k1 : Int)) fun (yt_27 : Go.Proofs.Ytlljmgphgmklcaa.PMail.Mail) =>
  unMail yt_27 fun (t_27_leave : Int) (t_27_from_ : Int) (t_27_to_ : Int) (t_27_arrive : Int) =>
  Option.bind (idx out_7l1 t_27_from_) fun (yt_34 : Int) =>
  letK (decide (yt_34 ≤ t_27_leave)) fun (t_38 : Bool) =>
  iteK t_38
  (Option.bind (idx out_7l1 t_27_to_) fun (yt_45 : Int) =>
  Option.bind (Go.Proofs.Ytlljmgphgmklcaa.GsL1Least.P yt_45 t_27_arrive) fun (t_49 : Int) =>
  Option.bind (idx out_7l1 t_27_to_) fun (yt_50 : Int) =>
  letK (out_7l1.set (t_27_to_).toNat t_49) fun (l51_51 : (List Int)) =>
  appK nx1 (l51_51))
  (appK nx1 (out_7l1))

def e1  (s : (List Int)) : Option ((List Int)) :=
  letK s fun out_7l1 =>
  some out_7l1

def e0 (list : (List Go.Proofs.Ytlljmgphgmklcaa.PMail.Mail)) (from_1 : Int) (minute : Int) (s : (List Int)) : Option ((List Int)) :=
  letK s fun out_7l0 =>
  Option.bind (idx out_7l0 from_1) fun (yt_18 : Int) =>
  letK (out_7l0.set (from_1).toNat minute) fun (l19_19 : (List Int)) =>
  cntK (l1 list) (list.length) 0 (l19_19) (e1 )

def P (list : (List Go.Proofs.Ytlljmgphgmklcaa.PMail.Mail)) (from_1 : Int) (minute : Int) : Option ((List Int)) :=
  guardK (0 ≤ 10 ∧ 10 ≤ 1099511627776) <|
  letK (List.replicate 10 0) fun (t_1 : (List Int)) =>
  cntK (l0 ) (t_1.length) 0 (t_1) (e0 list from_1 minute)

set_option maxRecDepth 100000 in
set_option maxHeartbeats 2000000 in
theorem C (list : (List Go.Proofs.Ytlljmgphgmklcaa.PMail.Mail)) (from_1 : Int) (minute : Int) (A0 : Option Addr) (c0 : Nat)  (w : World) (M0 : Hid (Cells w 4 A0 list.length (Go.Proofs.Ytlljmgphgmklcaa.PMail.flat list))) (N0 : Hid (list.length ≤ 9223372036854775807))  {r : (List Int)} (H : Hid (P list from_1 minute = some r)) :
    Calls Try.prog 145 #[.slice A0 list.length c0, .int .i64 from_1, .int .i64 minute] w (fun e w' => ∃ A_r c_r, e = .returned (.slice A_r r.length c_r) ∧ w'.ownsRow w.heap.size 3 1 (.slice A_r r.length c_r) r.length (Go.Proofs.Ytlljmgphgmklcaa.HelpInt.iv r) ∧ Below w.heap.size w w') := by
  have HB := Lib.hid (Below.refl w.heap.size w)
  unfold P at H
  have N0o := N0.out
  obtain ⟨i0_3, hi_3, hz0_3, hz1_3, hz2_3⟩ := Aid.info_parts (P := Try.prog) (T := 3) (z := .int .i64 0) (s := 1) (b := 8) (by kernel_rfl)
  go_enter Try.func145, Try.ntmps145
  replace H := guard_hid H
  obtain ⟨hnt_1, H⟩ := H
  replace H := let_hid H
  obtain ⟨t_1, ht_1, H⟩ := H
  have hst_1 := HB.out.size
  have hlt_1 : t_1.length = 10 := by rw [← ht_1]; simp
  have hht_1 := Lib.hid ht_1
  clear ht_1
  go_wp2_with (at_make; refine wpList_make_full _ rfl _ _ 48 rfl w.heap.size 3 i0_3 (.int .i64 0) 1 Try.underlying48 hi_3 hz0_3 hz1_3 .i64 .i64 _ _ 10 rfl rfl (by omega) (by omega) (by rw [hz2_3]; omega) (by unfold maxLen; omega) hst_1 ?_; intro wt_1 ot_1 gt_1; have Qt_1 := Lib.hid ot_1; have Gt_1 := Lib.hid gt_1; clear ot_1 gt_1; refine stop_in ?_)
  refine stop_out ?_
  have Et_1 : (Go.Proofs.Ytlljmgphgmklcaa.HelpInt.iv t_1) = (madeCells (.int .i64 0 : Value).cells (10 * 1)).toList := by
    rw [made_flat (fun x => [.int .i64 x]) 0 _ 1 _ rfl rfl (by decide), ← hht_1.out]
    exact map_flat _ _
  have Pt_1 : Hid (wt_1.ownsRow w.heap.size 3 1 (.slice (some ⟨w.heap.size, 0, none⟩) 10 10) 10 (Go.Proofs.Ytlljmgphgmklcaa.HelpInt.iv t_1)) := Lib.hid (by rw [Et_1]; exact Qt_1.out)
  clear Et_1
  replace hlt_1 := Lib.hid hlt_1
  clear Qt_1 hst_1
  have bt_1 : Below w.heap.size w wt_1 := (Below.refl _ _).grown Gt_1.out (Nat.le_refl _) (by simp)
  clear Gt_1
  have HBwt_1 := Lib.hid (Below.step HB.out bt_1)
  clear bt_1
  go_wp2_with fail
  go_wp2_with fail
  have hc_ := hlt_1.out
  have hv_ : (Value.slice (some ⟨w.heap.size, 0, none⟩) 10 10 : Value) = Value.slice (some ⟨w.heap.size, 0, none⟩) t_1.length 10 := by rw [hc_]
  try rw [hv_]
  replace Pt_1 := Lib.hid (own_len hc_ Pt_1.out)
  clear hc_ hv_
  have hb_0 : t_1.length ≤ 9223372036854775807 := own_max Pt_1.out
  go_wp2_with fail
  go_loopg [8] (t_1.length) (fun m_ v8_ wr => ∃ (k0 : Nat) (out_7l0 : (List Int)), k0 + m_ = t_1.length ∧ v8_ = .int .i64 (k0 : Int) ∧ Hid (cntK (l0 ) m_ k0 (out_7l0) (e0 list from_1 minute) = some r) ∧ Hid (Below w.heap.size w wr) ∧ Hid (wr.ownsRow w.heap.size 3 1 (.slice (some ⟨w.heap.size, 0, none⟩) t_1.length 10) t_1.length (Go.Proofs.Ytlljmgphgmklcaa.HelpInt.iv out_7l0)) ∧ Hid (out_7l0.length = t_1.length))
  case atStart => exact ⟨0, _, by omega, rfl, H, HBwt_1, Pt_1, Lib.hid (rfl)⟩
  case round =>
    obtain ⟨k0, out_7l0, hkm0, rfl, H, HBwr0, Oout_7l0, hnout_7l0⟩ := hrel
    rename World => wr0
    cases gk with
    | zero =>
      obtain rfl : k0 = t_1.length := by omega
      have hc0 : decide (((t_1.length : Nat) : Int) < ((t_1.length : Nat) : Int)) = false := by simp
      replace H := cnt_zero H
      unfold e0 at H
      replace H := let_hid H
      obtain ⟨_, rfl, H⟩ := H
      replace H := idx_hid H
      obtain ⟨nt_18, yt_18, et_18, lt_18, gt_18, H⟩ := H
      subst et_18
      have hqt_18 := hnout_7l0.out
      obtain ⟨ab_t_18, ao_t_18, zt_18, At_18, z_t_18, ct_18_0⟩ := Go.Proofs.Ytlljmgphgmklcaa.HelpInt.Ints.at_ (own_cells Oout_7l0.out) (k := nt_18) (by omega)
      obtain rfl := Option.some.inj (gt_18.out.symm.trans z_t_18)
      simp only [Option.some.injEq, Addr.mk.injEq] at At_18
      obtain ⟨rfl, rfl, _⟩ := At_18
      clear z_t_18
      simp only [Nat.zero_add] at ct_18_0
      have b0t_18 : (0 : Int) ≤ (nt_18 : Int) := by omega
      have b1t_18 : (nt_18 : Int) < ((t_1.length : Nat) : Int) := by omega
      have b2t_18 : ((nt_18 : Int)).toNat = nt_18 := by omega
      clear hqt_18
      replace H := let_hid H
      obtain ⟨l19_19, hl19_19, H⟩ := H
      try simp only [Int.toNat_natCast] at hl19_19
      obtain ⟨wl19_19, hwl19_19⟩ : ∃ x, (wr0).setCell ⟨w.heap.size, nt_18, none⟩ (.int .i64 minute) = x := ⟨_, rfl⟩
      have z0l19_19 := Oout_7l0.out.frozenAt (nt_18)
      have Sl19_19 := Lib.hid (own_stores [(nt_18, .int .i64 minute)] Oout_7l0.out)
      have nl19_19 : Hid (l19_19.length = t_1.length) := Lib.hid (by rw [← hl19_19, List.length_set]; exact hnout_7l0.out)
      have Pl19_19 : Hid (wl19_19.ownsRow w.heap.size 3 1 (.slice (some ⟨w.heap.size, 0, none⟩) t_1.length 10) t_1.length (Go.Proofs.Ytlljmgphgmklcaa.HelpInt.iv l19_19)) := Lib.hid (by have e_ : ([(nt_18, .int .i64 minute)] : List (Nat × Value)).foldl (fun xs p => xs.set p.1 p.2) (Go.Proofs.Ytlljmgphgmklcaa.HelpInt.iv out_7l0) = (Go.Proofs.Ytlljmgphgmklcaa.HelpInt.iv l19_19) := (by rw [← hl19_19]; first | done | simp [Go.Proofs.Ytlljmgphgmklcaa.HelpInt.iv, List.map_set]); rw [← hwl19_19, ← e_]; exact Sl19_19.out.1)
      have Gl19_19 : Hid (wr0.grownBy wl19_19 (Value.slice (some ⟨w.heap.size, 0, none⟩) t_1.length 10).ownBlock) := Lib.hid (by rw [← hwl19_19]; exact Sl19_19.out.2)
      have HBwl19_19 := Lib.hid (HBwr0.out.grown Gl19_19.out HBwr0.out.size (fun q hq => (Oout_7l0.out.lt q hq).1))
      have hhl19_19 := Lib.hid hl19_19
      clear hl19_19 Sl19_19
      clear Oout_7l0 Gl19_19
      go_wp2_with fail
      clear z0l19_19 ct_18_0
      go_wp2_with fail
      go_loopg [9] (list.length) (fun m_ v9_ wr => ∃ (k1 : Nat) (out_7l1 : (List Int)), k1 + m_ = list.length ∧ v9_ = .int .i64 (k1 : Int) ∧ Hid (cntK (l1 list) m_ k1 (out_7l1) (e1 ) = some r) ∧ Hid (Below w.heap.size w wr) ∧ Hid (wr.ownsRow w.heap.size 3 1 (.slice (some ⟨w.heap.size, 0, none⟩) t_1.length 10) t_1.length (Go.Proofs.Ytlljmgphgmklcaa.HelpInt.iv out_7l1)) ∧ Hid (out_7l1.length = t_1.length))
      case atStart => exact ⟨0, _, by omega, rfl, H, HBwl19_19, Pl19_19, Lib.hid (nl19_19.out)⟩
      case round =>
        obtain ⟨k1, out_7l1, hkm1, rfl, H, HBwr1, Oout_7l1, hnout_7l1⟩ := hrel
        rename World => wr1
        cases gk with
        | zero =>
          obtain rfl : k1 = list.length := by omega
          have hc1 : decide (((list.length : Nat) : Int) < ((list.length : Nat) : Int)) = false := by simp
          replace H := cnt_zero H
          unfold e1 at H
          replace H := let_hid H
          obtain ⟨_, rfl, H⟩ := H
          obtain rfl := ret_hid H
          go_wp2_with fail
          go_ret
          have hr_0 := hnout_7l1.out
          replace Oout_7l1 := Lib.hid (own_len hr_0 Oout_7l1.out)
          exact ⟨(some ⟨w.heap.size, 0, none⟩), 10, (by first | (rw [hr_0]; done) | (rw [hr_0]; rfl)), Oout_7l1.out, HBwr1.out⟩
        | succ m1 =>
          have hlt1 : k1 < list.length := by omega
          have hc1 : decide ((k1 : Int) < ((list.length : Nat) : Int)) = true := by simp; omega
          replace H := cnt_succ H
          unfold l1 at H
          replace H := let_hid H
          obtain ⟨_, rfl, H⟩ := H
          replace H := idx_hid H
          obtain ⟨nt_27, yt_27, et_27, lt_27, gt_27, H⟩ := H
          obtain rfl : k1 = nt_27 := by omega
          clear et_27
          obtain ⟨t_27_leave, t_27_from_, t_27_to_, t_27_arrive⟩ := yt_27
          replace H := unMail_hid H
          obtain ⟨ab_t_27, ao_t_27, zt_27, At_27, z_t_27, ct_27_0, ct_27_1, ct_27_2, ct_27_3⟩ := Go.Proofs.Ytlljmgphgmklcaa.OMail.at_ M0.out lt_27
          obtain rfl := Option.some.inj (gt_27.out.symm.trans z_t_27)
          subst At_27
          have ltt_27 := cell_lt ct_27_0
          replace ct_27_0 := cell_below HBwr1.out ct_27_0
          replace ct_27_1 := cell_below HBwr1.out ct_27_1
          replace ct_27_2 := cell_below HBwr1.out ct_27_2
          replace ct_27_3 := cell_below HBwr1.out ct_27_3
          clear z_t_27
          have b0t_27 : (0 : Int) ≤ (k1 : Int) := by omega
          have b1t_27 : (k1 : Int) < ((list.length : Nat) : Int) := by omega
          have b2t_27 : ((k1 : Int)).toNat = k1 := by omega
          obtain ⟨w_x_29, hw_x_29⟩ : ∃ x, wr1.alloc (.cells #[.int .i64 t_27_leave, .int .i64 t_27_from_, .int .i64 t_27_to_, .int .i64 t_27_arrive] 108) = x := ⟨_, rfl⟩
          have bw_x_29 : Below wr1.heap.size wr1 w_x_29 := by rw [← hw_x_29]; exact (Below.refl _ _).alloc (Nat.le_refl _) _
          have Dx_29_out_7l1 := Lib.hid (apart_fresh Oout_7l1.out)
          have HBw_x_29 := Lib.hid (Below.step HBwr1.out bw_x_29)
          have ct_27_0__383 := cell_below bw_x_29 ct_27_0
          have ct_27_1__384 := cell_below bw_x_29 ct_27_1
          have ct_27_2__385 := cell_below bw_x_29 ct_27_2
          have ct_27_3__386 := cell_below bw_x_29 ct_27_3
          replace Oout_7l1 := Lib.hid (own_below Oout_7l1.out bw_x_29)
          clear bw_x_29
          have kx_29_0 : w_x_29.cell? ⟨wr1.heap.size, 0, none⟩ = some (.int .i64 t_27_leave) := by rw [← hw_x_29]; exact box_new _ _ _ 0 _ rfl
          have kx_29_1 : w_x_29.cell? ⟨wr1.heap.size, 1, none⟩ = some (.int .i64 t_27_from_) := by rw [← hw_x_29]; exact box_new _ _ _ 1 _ rfl
          have kx_29_2 : w_x_29.cell? ⟨wr1.heap.size, 2, none⟩ = some (.int .i64 t_27_to_) := by rw [← hw_x_29]; exact box_new _ _ _ 2 _ rfl
          have kx_29_3 : w_x_29.cell? ⟨wr1.heap.size, 3, none⟩ = some (.int .i64 t_27_arrive) := by rw [← hw_x_29]; exact box_new _ _ _ 3 _ rfl
          go_wp2_with fail
          clear ct_27_0 ct_27_1 ct_27_2 ct_27_3
          have Hct_27_0__383 := Lib.hid ct_27_0__383
          replace ct_27_0__383 := cell_regrown ct_27_0__383
          have Hct_27_1__384 := Lib.hid ct_27_1__384
          replace ct_27_1__384 := cell_regrown ct_27_1__384
          have Hct_27_2__385 := Lib.hid ct_27_2__385
          replace ct_27_2__385 := cell_regrown ct_27_2__385
          have Hct_27_3__386 := Lib.hid ct_27_3__386
          replace ct_27_3__386 := cell_regrown ct_27_3__386
          have Hkx_29_0 := Lib.hid kx_29_0
          replace kx_29_0 := cell_regrown kx_29_0
          have Hkx_29_1 := Lib.hid kx_29_1
          replace kx_29_1 := cell_regrown kx_29_1
          have Hkx_29_2 := Lib.hid kx_29_2
          replace kx_29_2 := cell_regrown kx_29_2
          have Hkx_29_3 := Lib.hid kx_29_3
          replace kx_29_3 := cell_regrown kx_29_3
          replace H := idx_hid H
          obtain ⟨nt_34, yt_34, et_34, lt_34, gt_34, H⟩ := H
          subst et_34
          have hqt_34 := hnout_7l1.out
          obtain ⟨ab_t_34, ao_t_34, zt_34, At_34, z_t_34, ct_34_0⟩ := Go.Proofs.Ytlljmgphgmklcaa.HelpInt.Ints.at_ (own_cells Oout_7l1.out) (k := nt_34) (by omega)
          obtain rfl := Option.some.inj (gt_34.out.symm.trans z_t_34)
          simp only [Option.some.injEq, Addr.mk.injEq] at At_34
          obtain ⟨rfl, rfl, _⟩ := At_34
          clear z_t_34
          simp only [Nat.zero_add] at ct_34_0
          have b0t_34 : (0 : Int) ≤ (nt_34 : Int) := by omega
          have b1t_34 : (nt_34 : Int) < ((t_1.length : Nat) : Int) := by omega
          have b2t_34 : ((nt_34 : Int)).toNat = nt_34 := by omega
          clear hqt_34
          have Hct_34_0 := Lib.hid ct_34_0
          replace ct_34_0 := cell_regrown ct_34_0
          replace H := let_hid H
          obtain ⟨t_38, ht_38, H⟩ := H
          refine wp_region_quiet_below (by kernel_rfl) (by kernel_rfl) ?_
          repeat (go_big_quiet_step (fail))
          refine wpQuiet_nil ?_
          intro Y11 hY11
          replace hY11 := below_class hY11
          replace ct_27_0__383 := Hct_27_0__383.out
          clear Hct_27_0__383
          replace ct_27_1__384 := Hct_27_1__384.out
          clear Hct_27_1__384
          replace ct_27_2__385 := Hct_27_2__385.out
          clear Hct_27_2__385
          replace ct_27_3__386 := Hct_27_3__386.out
          clear Hct_27_3__386
          replace kx_29_0 := Hkx_29_0.out
          clear Hkx_29_0
          replace kx_29_1 := Hkx_29_1.out
          clear Hkx_29_1
          replace kx_29_2 := Hkx_29_2.out
          clear Hkx_29_2
          replace kx_29_3 := Hkx_29_3.out
          clear Hkx_29_3
          replace ct_34_0 := Hct_34_0.out
          clear Hct_34_0
          have HBY11 := Lib.hid (Below.step HBw_x_29.out hY11)
          replace ct_27_0__383 := cell_below hY11 ct_27_0__383
          replace ct_27_1__384 := cell_below hY11 ct_27_1__384
          replace ct_27_2__385 := cell_below hY11 ct_27_2__385
          replace ct_27_3__386 := cell_below hY11 ct_27_3__386
          replace kx_29_0 := cell_below hY11 kx_29_0
          replace kx_29_1 := cell_below hY11 kx_29_1
          replace kx_29_2 := cell_below hY11 kx_29_2
          replace kx_29_3 := cell_below hY11 kx_29_3
          replace ct_34_0 := cell_below hY11 ct_34_0
          replace Oout_7l1 := Lib.hid (own_below Oout_7l1.out hY11)
          clear hY11
          cases t_38 with
          | false =>
            replace H := ite_f H
            replace H := app_hid H
            go_wp2_with fail
            go_roundg m1
            case measure => omega
            case rel => exact ⟨k1 + 1, _, by omega, by go_num, H, HBY11, Oout_7l1, Lib.hid (hnout_7l1.out)⟩
          | true =>
            replace H := ite_t H
            go_wp2_with fail
            obtain ⟨Z12, hZ12⟩ : ∃ x, Y11.drew = x := ⟨_, rfl⟩
            have bd12 : Below Y11.heap.size Y11 Z12 := by rw [← hZ12]; exact (Below.refl _ _).drew
            have HBZ12 := Lib.hid (Below.step HBY11.out bd12)
            replace ct_27_0__383 := cell_below bd12 ct_27_0__383
            replace ct_27_1__384 := cell_below bd12 ct_27_1__384
            replace ct_27_2__385 := cell_below bd12 ct_27_2__385
            replace ct_27_3__386 := cell_below bd12 ct_27_3__386
            replace kx_29_0 := cell_below bd12 kx_29_0
            replace kx_29_1 := cell_below bd12 kx_29_1
            replace kx_29_2 := cell_below bd12 kx_29_2
            replace kx_29_3 := cell_below bd12 kx_29_3
            replace ct_34_0 := cell_below bd12 ct_34_0
            replace Oout_7l1 := Lib.hid (own_below Oout_7l1.out bd12)
            clear bd12
            replace H := idx_hid H
            obtain ⟨nt_45, yt_45, et_45, lt_45, gt_45, H⟩ := H
            subst et_45
            have hqt_45 := hnout_7l1.out
            obtain ⟨ab_t_45, ao_t_45, zt_45, At_45, z_t_45, ct_45_0⟩ := Go.Proofs.Ytlljmgphgmklcaa.HelpInt.Ints.at_ (own_cells Oout_7l1.out) (k := nt_45) (by omega)
            obtain rfl := Option.some.inj (gt_45.out.symm.trans z_t_45)
            simp only [Option.some.injEq, Addr.mk.injEq] at At_45
            obtain ⟨rfl, rfl, _⟩ := At_45
            clear z_t_45
            simp only [Nat.zero_add] at ct_45_0
            have b0t_45 : (0 : Int) ≤ (nt_45 : Int) := by omega
            have b1t_45 : (nt_45 : Int) < ((t_1.length : Nat) : Int) := by omega
            have b2t_45 : ((nt_45 : Int)).toNat = nt_45 := by omega
            clear hqt_45
            replace H := bind_hid H
            obtain ⟨t_49, qt_49, H⟩ := H
            replace H := idx_hid H
            obtain ⟨nt_50, yt_50, et_50, lt_50, gt_50, H⟩ := H
            obtain rfl : nt_45 = nt_50 := by omega
            clear et_50
            obtain rfl := Option.some.inj (gt_45.out.symm.trans gt_50.out)
            clear gt_50 lt_50
            refine wp_region_still_tail 12 (by kernel_rfl) (by kernel_rfl) ?_
            simp only [List.take_succ_cons, List.take_zero, List.drop_succ_cons, List.drop_zero]
            change wpStill _ _ Y11.drew _ _ _
            rw [hZ12]
            still_step
            still_step
            still_step
            still_step
            still_step
            still_step
            still_step
            still_step
            still_step
            still_step
            still_call (Go.Proofs.Ytlljmgphgmklcaa.GsL1Least.C0 (yt_45) (t_27_arrive)  _    qt_49)
            still_step
            refine wpStill_nil ?_
            change wpList _ _ _ _ _ Y11.drew
            rw [hZ12]
            clear hZ12
            replace H := let_hid H
            obtain ⟨l51_51, hl51_51, H⟩ := H
            try simp only [Int.toNat_natCast] at hl51_51
            obtain ⟨wl51_51, hwl51_51⟩ : ∃ x, (Z12).setCell ⟨w.heap.size, nt_45, none⟩ (.int .i64 t_49) = x := ⟨_, rfl⟩
            have z0l51_51 := Oout_7l1.out.frozenAt (nt_45)
            have Sl51_51 := Lib.hid (own_stores [(nt_45, .int .i64 t_49)] Oout_7l1.out)
            have nl51_51 : Hid (l51_51.length = t_1.length) := Lib.hid (by rw [← hl51_51, List.length_set]; exact hnout_7l1.out)
            have Pl51_51 : Hid (wl51_51.ownsRow w.heap.size 3 1 (.slice (some ⟨w.heap.size, 0, none⟩) t_1.length 10) t_1.length (Go.Proofs.Ytlljmgphgmklcaa.HelpInt.iv l51_51)) := Lib.hid (by have e_ : ([(nt_45, .int .i64 t_49)] : List (Nat × Value)).foldl (fun xs p => xs.set p.1 p.2) (Go.Proofs.Ytlljmgphgmklcaa.HelpInt.iv out_7l1) = (Go.Proofs.Ytlljmgphgmklcaa.HelpInt.iv l51_51) := (by rw [← hl51_51]; first | done | simp [Go.Proofs.Ytlljmgphgmklcaa.HelpInt.iv, List.map_set]); rw [← hwl51_51, ← e_]; exact Sl51_51.out.1)
            have Gl51_51 : Hid (Z12.grownBy wl51_51 (Value.slice (some ⟨w.heap.size, 0, none⟩) t_1.length 10).ownBlock) := Lib.hid (by rw [← hwl51_51]; exact Sl51_51.out.2)
            have HBwl51_51 := Lib.hid (HBZ12.out.grown Gl51_51.out HBZ12.out.size (fun q hq => (Oout_7l1.out.lt q hq).1))
            have hhl51_51 := Lib.hid hl51_51
            clear hl51_51 Sl51_51
            have ct_27_0__387 := cell_other ct_27_0__383 Gl51_51.out (apart_old Oout_7l1.out ltt_27)
            have ct_27_1__388 := cell_other ct_27_1__384 Gl51_51.out (apart_old Oout_7l1.out ltt_27)
            have ct_27_2__389 := cell_other ct_27_2__385 Gl51_51.out (apart_old Oout_7l1.out ltt_27)
            have ct_27_3__390 := cell_other ct_27_3__386 Gl51_51.out (apart_old Oout_7l1.out ltt_27)
            have kx_29_0__391 := cell_other kx_29_0 Gl51_51.out (Apart.symm Dx_29_out_7l1.out)
            have kx_29_1__392 := cell_other kx_29_1 Gl51_51.out (Apart.symm Dx_29_out_7l1.out)
            have kx_29_2__393 := cell_other kx_29_2 Gl51_51.out (Apart.symm Dx_29_out_7l1.out)
            have kx_29_3__394 := cell_other kx_29_3 Gl51_51.out (Apart.symm Dx_29_out_7l1.out)
            clear Oout_7l1 Gl51_51
            replace H := app_hid H
            go_wp2_with fail
            clear z0l51_51 ct_27_0__383 ct_27_1__384 ct_27_2__385 ct_27_3__386 kx_29_0 kx_29_1 kx_29_2 kx_29_3 ct_34_0 ct_45_0
            go_roundg m1
            case measure => omega
            case rel => exact ⟨k1 + 1, _, by omega, by go_num, H, HBwl51_51, Pl51_51, Lib.hid (nl51_51.out)⟩
    | succ m0 =>
      have hlt0 : k0 < t_1.length := by omega
      have hc0 : decide ((k0 : Int) < ((t_1.length : Nat) : Int)) = true := by simp; omega
      replace H := cnt_succ H
      unfold l0 at H
      replace H := let_hid H
      obtain ⟨_, rfl, H⟩ := H
      replace H := idx_hid H
      obtain ⟨nt_10, yt_10, et_10, lt_10, gt_10, H⟩ := H
      obtain rfl : k0 = nt_10 := by omega
      clear et_10
      have hqt_10 := hnout_7l0.out
      obtain ⟨ab_t_10, ao_t_10, zt_10, At_10, z_t_10, ct_10_0⟩ := Go.Proofs.Ytlljmgphgmklcaa.HelpInt.Ints.at_ (own_cells Oout_7l0.out) (k := k0) (by omega)
      obtain rfl := Option.some.inj (gt_10.out.symm.trans z_t_10)
      simp only [Option.some.injEq, Addr.mk.injEq] at At_10
      obtain ⟨rfl, rfl, _⟩ := At_10
      clear z_t_10
      simp only [Nat.zero_add] at ct_10_0
      have b0t_10 : (0 : Int) ≤ (k0 : Int) := by omega
      have b1t_10 : (k0 : Int) < ((t_1.length : Nat) : Int) := by omega
      have b2t_10 : ((k0 : Int)).toNat = k0 := by omega
      clear hqt_10
      replace H := let_hid H
      obtain ⟨l11_11, hl11_11, H⟩ := H
      try simp only [Int.toNat_natCast] at hl11_11
      obtain ⟨wl11_11, hwl11_11⟩ : ∃ x, (wr0).setCell ⟨w.heap.size, k0, none⟩ (.int .i64 10000) = x := ⟨_, rfl⟩
      have z0l11_11 := Oout_7l0.out.frozenAt (k0)
      have Sl11_11 := Lib.hid (own_stores [(k0, .int .i64 10000)] Oout_7l0.out)
      have nl11_11 : Hid (l11_11.length = t_1.length) := Lib.hid (by rw [← hl11_11, List.length_set]; exact hnout_7l0.out)
      have Pl11_11 : Hid (wl11_11.ownsRow w.heap.size 3 1 (.slice (some ⟨w.heap.size, 0, none⟩) t_1.length 10) t_1.length (Go.Proofs.Ytlljmgphgmklcaa.HelpInt.iv l11_11)) := Lib.hid (by have e_ : ([(k0, .int .i64 10000)] : List (Nat × Value)).foldl (fun xs p => xs.set p.1 p.2) (Go.Proofs.Ytlljmgphgmklcaa.HelpInt.iv out_7l0) = (Go.Proofs.Ytlljmgphgmklcaa.HelpInt.iv l11_11) := (by rw [← hl11_11]; first | done | simp [Go.Proofs.Ytlljmgphgmklcaa.HelpInt.iv, List.map_set]); rw [← hwl11_11, ← e_]; exact Sl11_11.out.1)
      have Gl11_11 : Hid (wr0.grownBy wl11_11 (Value.slice (some ⟨w.heap.size, 0, none⟩) t_1.length 10).ownBlock) := Lib.hid (by rw [← hwl11_11]; exact Sl11_11.out.2)
      have HBwl11_11 := Lib.hid (HBwr0.out.grown Gl11_11.out HBwr0.out.size (fun q hq => (Oout_7l0.out.lt q hq).1))
      have hhl11_11 := Lib.hid hl11_11
      clear hl11_11 Sl11_11
      clear Oout_7l0 Gl11_11
      replace H := app_hid H
      go_wp2_with fail
      clear z0l11_11 ct_10_0
      go_roundg m0
      case measure => omega
      case rel => exact ⟨k0 + 1, _, by omega, by go_num, H, HBwl11_11, Pl11_11, Lib.hid (nl11_11.out)⟩
end Go.Proofs.Ytlljmgphgmklcaa.GsL9Times

/- loop.example/g01062/spec.EarliestAt as a plain function, and the contract of the program's: where the plain one has an answer, the program has it. Conditions: slices read as lists. -/
namespace Go.Proofs.Ytlljmgphgmklcaa.GsEarliestAt
set_option linter.unusedVariables false
set_option linter.unusedSimpArgs false
open Go.RowKit
open Go.Proofs.Ytlljmgphgmklcaa.Rowed Go.Proofs.Ytlljmgphgmklcaa.Turn Go.Proofs.Ytlljmgphgmklcaa.Aid Go.Proofs.Ytlljmgphgmklcaa.GoP Go.Proofs.Ytlljmgphgmklcaa.GoM

def P (list : (List Go.Proofs.Ytlljmgphgmklcaa.PMail.Mail)) (from_1 : Int) (minute : Int) (to_3 : Int) : Option (Int × Bool) :=
  Option.bind (Go.Proofs.Ytlljmgphgmklcaa.GsL9Asked.P list from_1 minute) fun (t_5 : Bool) =>
  letK (!t_5) fun (t_6 : Bool) =>
  joinK (fun (t_11 : Bool) =>
  iteK t_11
  (some (0, false))
  (Option.bind (Go.Proofs.Ytlljmgphgmklcaa.GsL9Times.P list from_1 minute) fun (t_17 : (List Int)) =>
  Option.bind (idx t_17 to_3) fun (yt_19 : Int) =>
  letK (yt_19 == 10000) fun (t_23 : Bool) =>
  iteK t_23
  (some (0, false))
  (some (yt_19, true)))) fun jt_11 => iteK t_6 (appK jt_11 true) (Option.bind (Go.Proofs.Ytlljmgphgmklcaa.GsL9Office.P to_3) fun (t_9 : Bool) =>
  letK (!t_9) fun (t_10 : Bool) =>
  appK jt_11 t_10)

set_option maxRecDepth 100000 in
set_option maxHeartbeats 2000000 in
theorem C (list : (List Go.Proofs.Ytlljmgphgmklcaa.PMail.Mail)) (from_1 : Int) (minute : Int) (to_3 : Int) (A0 : Option Addr) (c0 : Nat)  (w : World) (M0 : Hid (Cells w 4 A0 list.length (Go.Proofs.Ytlljmgphgmklcaa.PMail.flat list))) (N0 : Hid (list.length ≤ 9223372036854775807))  {r0 : Int} {r1 : Bool} (H : Hid (P list from_1 minute to_3 = some (r0, r1))) :
    Calls Try.prog 146 #[.slice A0 list.length c0, .int .i64 from_1, .int .i64 minute, .int .i64 to_3] w (Gives (.tuple #[.int .i64 r0, .bool r1]) w) := by
  have HB := Lib.hid (Below.refl w.heap.size w)
  unfold P at H
  have N0o := N0.out
  go_enter Try.func146, Try.ntmps146
  replace H := bind_hid H
  obtain ⟨t_5, qt_5, H⟩ := H
  go_wp2_with fail
  go_at_call 153
  refine (Go.Proofs.Ytlljmgphgmklcaa.GsL9Asked.C (list) (from_1) (minute) A0 c0 _   (Lib.hid (Cells.below M0.out HB.out)) N0 qt_5).mono ?_
  rintro e_t_5 wt_5 ⟨rfl, bt_5⟩
  have HBwt_5 := Lib.hid (Below.step HB.out bt_5)
  clear bt_5
  cases t_5 with
  | false =>
    replace H := let_hid H
    obtain ⟨t_6, ht_6, H⟩ := H
    obtain rfl : t_6 = true := ht_6.symm
    replace H := join_hid H
    replace H := ite_t H
    replace H := app_hid H
    replace H := ite_t H
    cases ret_hid H
    go_wp2_with fail
    go_ret2
    exact ⟨rfl, HBwt_5.out⟩
  | true =>
    replace H := let_hid H
    obtain ⟨t_6, ht_6, H⟩ := H
    obtain rfl : t_6 = false := ht_6.symm
    replace H := join_hid H
    replace H := ite_f H
    replace H := bind_hid H
    obtain ⟨t_9, qt_9, H⟩ := H
    go_wp2_with fail
    go_at_call 109
    refine (Go.Proofs.Ytlljmgphgmklcaa.GsL9Office.C (to_3)  _    qt_9).mono ?_
    rintro e_t_9 wt_9 ⟨rfl, bt_9⟩
    have HBwt_9 := Lib.hid (Below.step HBwt_5.out bt_9)
    clear bt_9
    cases t_9 with
    | false =>
      replace H := let_hid H
      obtain ⟨t_10, ht_10, H⟩ := H
      obtain rfl : t_10 = true := ht_10.symm
      replace H := app_hid H
      replace H := ite_t H
      cases ret_hid H
      go_wp2_with fail
      go_ret2
      exact ⟨rfl, HBwt_9.out⟩
    | true =>
      replace H := let_hid H
      obtain ⟨t_10, ht_10, H⟩ := H
      obtain rfl : t_10 = false := ht_10.symm
      replace H := app_hid H
      replace H := ite_f H
      replace H := bind_hid H
      obtain ⟨t_17, qt_17, H⟩ := H
      go_wp2_with fail
      go_at_call 145
      refine (Go.Proofs.Ytlljmgphgmklcaa.GsL9Times.C (list) (from_1) (minute) A0 c0 _   (Lib.hid (Cells.below M0.out HBwt_9.out)) N0 qt_17).mono ?_
      rintro e_t_17 wt_17 ⟨At_17, ct_17, rfl, ot_17, bt_17⟩
      have Ot_17 := Lib.hid (own_lower ot_17 HBwt_9.out.size)
      clear ot_17
      have HBwt_17 := Lib.hid (Below.step HBwt_9.out bt_17)
      clear bt_17
      replace H := idx_hid H
      obtain ⟨nt_19, yt_19, et_19, lt_19, gt_19, H⟩ := H
      subst et_19
      obtain ⟨qt_19, Qt_19⟩ := own_some Ot_17.out (by omega)
      subst Qt_19
      obtain ⟨ab_t_19, ao_t_19, zt_19, At_19, z_t_19, ct_19_0⟩ := Go.Proofs.Ytlljmgphgmklcaa.HelpInt.Ints.at_ (own_cells Ot_17.out) (k := nt_19) (by omega)
      obtain rfl := Option.some.inj (gt_19.out.symm.trans z_t_19)
      simp only [Option.some.injEq, Addr.mk.injEq] at At_19
      obtain ⟨rfl, rfl, _⟩ := At_19
      clear z_t_19
      simp only [Nat.zero_add] at ct_19_0
      have b0t_19 : (0 : Int) ≤ (nt_19 : Int) := by omega
      have b1t_19 : (nt_19 : Int) < ((t_17.length : Nat) : Int) := by omega
      have b2t_19 : ((nt_19 : Int)).toNat = nt_19 := by omega
      replace H := let_hid H
      obtain ⟨t_23, ht_23, H⟩ := H
      cases t_23 with
      | false =>
        replace H := ite_f H
        cases ret_hid H
        go_wp2_with fail
        go_ret2
        exact ⟨rfl, HBwt_17.out⟩
      | true =>
        replace H := ite_t H
        cases ret_hid H
        go_wp2_with fail
        go_ret2
        exact ⟨rfl, HBwt_17.out⟩
end Go.Proofs.Ytlljmgphgmklcaa.GsEarliestAt

