/- Texts on which the proofs of several laws stand, one behind the other (11 of 13). No condition of their own. -/
import Derived.Test.YtlljmgphgmklcaaChecked
import Derived.Test.YtlljmgphgmklcaaV10P1
import Derived.Test.YtlljmgphgmklcaaV10P9
import Derived.Test.YtlljmgphgmklcaaV10P10
import Derived.WalkKit
import Derived.WalkSpells
import Derived.WalkLawsBesides
import Derived.BigQuiet
import Derived.OwnWalk
import Derived.Deep.LoopGhost
import Derived.Deep.QuietTactic
import Derived.IntWalk
import Derived.Lib.QuietBelow
import Derived.Test.YtlljmgphgmklcaaV10P4
import Derived.Test.YtlljmgphgmklcaaV10P2
import Derived.Test.YtlljmgphgmklcaaV10P5
import Derived.Test.YtlljmgphgmklcaaV10P6
import Derived.Test.YtlljmgphgmklcaaV10P3
/- loop.example/g01062/spec.l8Good as a plain function, and the contract of the program's: where the plain one has an answer, the program has it. Conditions: slices read as lists. -/
namespace Go.Proofs.Ytlljmgphgmklcaa.GsL8Good
set_option linter.unusedVariables false
set_option linter.unusedSimpArgs false
open Go.RowKit
open Go.Proofs.Ytlljmgphgmklcaa.Rowed Go.Proofs.Ytlljmgphgmklcaa.Turn Go.Proofs.Ytlljmgphgmklcaa.Aid Go.Proofs.Ytlljmgphgmklcaa.GoP Go.Proofs.Ytlljmgphgmklcaa.GoM

def l0 (list : (List Go.Proofs.Ytlljmgphgmklcaa.PRate.Rate)) (s : Int) (nx0 bk0 : Int → Option (Bool)) : Option (Bool) :=
  letK s fun i_3l0 =>
  letK (decide (i_3l0 < (list.length : Int))) fun (t_5 : Bool) =>
  joinK (fun (t_9 : Bool) =>
  iteK t_9
  (Option.bind (idx list i_3l0) fun (yt_12 : Go.Proofs.Ytlljmgphgmklcaa.PRate.Rate) =>
  unRate yt_12 fun (t_12_zone : Int) (t_12_grams : Int) (t_12_from_ : Int) (t_12_until_ : Int) (t_12_cents : Int) =>
  Option.bind (Go.Proofs.Ytlljmgphgmklcaa.GsL8One.P (Go.Proofs.Ytlljmgphgmklcaa.PRate.Rate.mk t_12_zone t_12_grams t_12_from_ t_12_until_ t_12_cents)) fun (t_14 : Bool) =>
  letK (!t_14) fun (t_15 : Bool) =>
  joinK (fun (t_33 : Bool) =>
  iteK t_33
  (some false)
  (letK (decide (0 < i_3l0)) fun (t_36 : Bool) =>
  joinK (fun (t_50 : Bool) =>
  joinK (fun (t_64 : Bool) =>
  joinK (fun (t_78 : Bool) =>
  iteK t_78
  (some false)
  (letK (IntKind.i64.wrap (i_3l0 + 1)) fun (t_81 : Int) =>
  appK nx0 (t_81))) fun jt_78 => iteK t_64 (letK (IntKind.i64.wrap (i_3l0 - 1)) fun (t_68 : Int) =>
  Option.bind (idx list t_68) fun (yt_69 : Go.Proofs.Ytlljmgphgmklcaa.PRate.Rate) =>
  unRate yt_69 fun (t_69_zone : Int) (t_69_grams : Int) (t_69_from_ : Int) (t_69_until_ : Int) (t_69_cents : Int) =>
  Option.bind (idx list i_3l0) fun (yt_74 : Go.Proofs.Ytlljmgphgmklcaa.PRate.Rate) =>
  unRate yt_74 fun (t_74_zone : Int) (t_74_grams : Int) (t_74_from_ : Int) (t_74_until_ : Int) (t_74_cents : Int) =>
  letK (decide (t_74_from_ ≤ t_69_until_)) fun (t_77 : Bool) =>
  appK jt_78 t_77) (appK jt_78 false)) fun jt_64 => iteK t_50 (letK (IntKind.i64.wrap (i_3l0 - 1)) fun (t_54 : Int) =>
  Option.bind (idx list t_54) fun (yt_55 : Go.Proofs.Ytlljmgphgmklcaa.PRate.Rate) =>
  unRate yt_55 fun (t_55_zone : Int) (t_55_grams : Int) (t_55_from_ : Int) (t_55_until_ : Int) (t_55_cents : Int) =>
  Option.bind (idx list i_3l0) fun (yt_60 : Go.Proofs.Ytlljmgphgmklcaa.PRate.Rate) =>
  unRate yt_60 fun (t_60_zone : Int) (t_60_grams : Int) (t_60_from_ : Int) (t_60_until_ : Int) (t_60_cents : Int) =>
  letK (t_55_grams == t_60_grams) fun (t_63 : Bool) =>
  appK jt_64 t_63) (appK jt_64 false)) fun jt_50 => iteK t_36 (letK (IntKind.i64.wrap (i_3l0 - 1)) fun (t_40 : Int) =>
  Option.bind (idx list t_40) fun (yt_41 : Go.Proofs.Ytlljmgphgmklcaa.PRate.Rate) =>
  unRate yt_41 fun (t_41_zone : Int) (t_41_grams : Int) (t_41_from_ : Int) (t_41_until_ : Int) (t_41_cents : Int) =>
  Option.bind (idx list i_3l0) fun (yt_46 : Go.Proofs.Ytlljmgphgmklcaa.PRate.Rate) =>
  unRate yt_46 fun (t_46_zone : Int) (t_46_grams : Int) (t_46_from_ : Int) (t_46_until_ : Int) (t_46_cents : Int) =>
  letK (t_41_zone == t_46_zone) fun (t_49 : Bool) =>
  appK jt_50 t_49) (appK jt_50 false))) fun jt_33 => iteK t_15 (appK jt_33 true) (letK (decide (0 < i_3l0)) fun (t_18 : Bool) =>
  joinK (fun (t_32 : Bool) =>
  appK jt_33 t_32) fun jt_32 => iteK t_18 (letK (IntKind.i64.wrap (i_3l0 - 1)) fun (t_22 : Int) =>
  Option.bind (idx list t_22) fun (yt_23 : Go.Proofs.Ytlljmgphgmklcaa.PRate.Rate) =>
  unRate yt_23 fun (t_23_zone : Int) (t_23_grams : Int) (t_23_from_ : Int) (t_23_until_ : Int) (t_23_cents : Int) =>
  Option.bind (Go.Proofs.Ytlljmgphgmklcaa.GsL8Code.P (Go.Proofs.Ytlljmgphgmklcaa.PRate.Rate.mk t_23_zone t_23_grams t_23_from_ t_23_until_ t_23_cents)) fun (t_25 : Int) =>
  Option.bind (idx list i_3l0) fun (yt_28 : Go.Proofs.Ytlljmgphgmklcaa.PRate.Rate) =>
  unRate yt_28 fun (t_28_zone : Int) (t_28_grams : Int) (t_28_from_ : Int) (t_28_until_ : Int) (t_28_cents : Int) =>
  Option.bind (Go.Proofs.Ytlljmgphgmklcaa.GsL8Code.P (Go.Proofs.Ytlljmgphgmklcaa.PRate.Rate.mk t_28_zone t_28_grams t_28_from_ t_28_until_ t_28_cents)) fun (t_30 : Int) =>
  letK (decide (t_30 ≤ t_25)) fun (t_31 : Bool) =>
  appK jt_32 t_31) (appK jt_32 false)))
  (appK bk0 (i_3l0))) fun jt_9 => iteK t_5 (letK (decide (i_3l0 ≤ 16)) fun (t_8 : Bool) =>
  appK jt_9 t_8) (appK jt_9 false)

def e0 (list : (List Go.Proofs.Ytlljmgphgmklcaa.PRate.Rate)) (s : Int) : Option (Bool) :=
  letK s fun i_3l0 =>
  letK (decide ((list.length : Int) ≤ 16)) fun (t_85 : Bool) =>
  some t_85

def P (fuel : Nat) (list : (List Go.Proofs.Ytlljmgphgmklcaa.PRate.Rate)) : Option (Bool) :=
  loopK (l0 list) fuel (0) (e0 list)

set_option maxRecDepth 100000 in
set_option maxHeartbeats 2000000 in
theorem C (fuel : Nat) (list : (List Go.Proofs.Ytlljmgphgmklcaa.PRate.Rate)) (A0 : Option Addr) (c0 : Nat)  (w : World) (M0 : Hid (Cells w 5 A0 list.length (Go.Proofs.Ytlljmgphgmklcaa.PRate.flat list))) (N0 : Hid (list.length ≤ 9223372036854775807))  {r : Bool} (H : Hid (P fuel list = some r)) :
    Calls Try.prog 89 #[.slice A0 list.length c0] w (Gives (.bool r) w) := by
  have HB := Lib.hid (Below.refl w.heap.size w)
  unfold P at H
  have N0o := N0.out
  go_enter Try.func89, Try.ntmps89
  go_wp2_with fail
  go_loopg [3] (fuel) (fun m_ v3_ wr => ∃ (i_3l0 : Int), v3_ = .int .i64 i_3l0 ∧ Hid (loopK (l0 list) m_ (i_3l0) (e0 list) = some r) ∧ Hid (Below w.heap.size w wr))
  case atStart => exact ⟨_, rfl, H, HB⟩
  case round =>
    obtain ⟨i_3l0, rfl, H, HBwr0⟩ := hrel
    rename World => wr0
    cases gk with
    | zero => exact (loop_zero H).elim
    | succ m0 =>
      replace H := loop_succ H
      unfold l0 at H
      replace H := let_hid H
      obtain ⟨_, rfl, H⟩ := H
      replace H := let_hid H
      obtain ⟨t_5, ht_5, H⟩ := H
      replace H := join_hid H
      cases t_5 with
      | false =>
        replace H := ite_f H
        replace H := app_hid H
        replace H := ite_f H
        replace H := app_hid H
        unfold e0 at H
        replace H := let_hid H
        obtain ⟨_, rfl, H⟩ := H
        replace H := let_hid H
        obtain ⟨t_85, ht_85, H⟩ := H
        obtain rfl := ret_hid H
        go_wp2_with fail
        go_ret
        exact ⟨rfl, HBwr0.out⟩
      | true =>
        replace H := ite_t H
        replace H := let_hid H
        obtain ⟨t_8, ht_8, H⟩ := H
        replace H := app_hid H
        cases t_8 with
        | false =>
          replace H := ite_f H
          replace H := app_hid H
          unfold e0 at H
          replace H := let_hid H
          obtain ⟨_, rfl, H⟩ := H
          replace H := let_hid H
          obtain ⟨t_85, ht_85, H⟩ := H
          obtain rfl := ret_hid H
          go_wp2_with fail
          go_ret
          exact ⟨rfl, HBwr0.out⟩
        | true =>
          replace H := ite_t H
          go_wp2_with fail
          replace H := idx_hid H
          obtain ⟨nt_12, yt_12, et_12, lt_12, gt_12, H⟩ := H
          subst et_12
          have nc_493 : nt_12 < list.length := by have := of_decide_eq_true ht_5; omega
          have nc_494 : nt_12 ≤ 16 := by have := of_decide_eq_true ht_8; omega
          obtain ⟨t_12_zone, t_12_grams, t_12_from_, t_12_until_, t_12_cents⟩ := yt_12
          replace H := unRate_hid H
          obtain ⟨ab_t_12, ao_t_12, zt_12, At_12, z_t_12, ct_12_0, ct_12_1, ct_12_2, ct_12_3, ct_12_4⟩ := Go.Proofs.Ytlljmgphgmklcaa.ORate.at_ M0.out lt_12
          obtain rfl := Option.some.inj (gt_12.out.symm.trans z_t_12)
          subst At_12
          have ltt_12 := cell_lt ct_12_0
          replace ct_12_0 := cell_below HBwr0.out ct_12_0
          replace ct_12_1 := cell_below HBwr0.out ct_12_1
          replace ct_12_2 := cell_below HBwr0.out ct_12_2
          replace ct_12_3 := cell_below HBwr0.out ct_12_3
          replace ct_12_4 := cell_below HBwr0.out ct_12_4
          clear z_t_12
          have b0t_12 : (0 : Int) ≤ (nt_12 : Int) := by omega
          have b1t_12 : (nt_12 : Int) < ((list.length : Nat) : Int) := by omega
          have b2t_12 : ((nt_12 : Int)).toNat = nt_12 := by omega
          have Hct_12_0 := Lib.hid ct_12_0
          replace ct_12_0 := cell_regrown ct_12_0
          have Hct_12_1 := Lib.hid ct_12_1
          replace ct_12_1 := cell_regrown ct_12_1
          have Hct_12_2 := Lib.hid ct_12_2
          replace ct_12_2 := cell_regrown ct_12_2
          have Hct_12_3 := Lib.hid ct_12_3
          replace ct_12_3 := cell_regrown ct_12_3
          have Hct_12_4 := Lib.hid ct_12_4
          replace ct_12_4 := cell_regrown ct_12_4
          replace H := bind_hid H
          obtain ⟨t_14, qt_14, H⟩ := H
          have nt_14 : ∀ d os, Calls Try.prog 141 #[.agg #[.int .i64 t_12_zone, .int .i64 t_12_grams, .int .i64 t_12_from_, .int .i64 t_12_until_, .int .i64 t_12_cents]] (Go.Sort.grow (redrawn wr0 d) os) fun e w'' => e = .returned (.bool t_14) ∧ ∃ p : Regrown, w'' = Go.Sort.grow (redrawn wr0 p.d) p.os := fun d os => Calls.regrown_of (Go.Proofs.Ytlljmgphgmklcaa.GsL8One.C ((Go.Proofs.Ytlljmgphgmklcaa.PRate.Rate.mk t_12_zone t_12_grams t_12_from_ t_12_until_ t_12_cents))  _    qt_14)
          cases t_14 with
          | false =>
            replace H := let_hid H
            obtain ⟨t_15, ht_15, H⟩ := H
            obtain rfl : t_15 = true := ht_15.symm
            replace H := join_hid H
            replace H := ite_t H
            replace H := app_hid H
            refine wp_region_quiet_below (by kernel_rfl) (by kernel_rfl) ?_
            repeat (go_big_quiet_step (first | (go_at_call 141; exact nt_14 _ _)))
            refine wpQuiet_nil ?_
            intro Y4 hY4
            replace hY4 := below_class hY4
            clear nt_14
            replace ct_12_0 := Hct_12_0.out
            clear Hct_12_0
            replace ct_12_1 := Hct_12_1.out
            clear Hct_12_1
            replace ct_12_2 := Hct_12_2.out
            clear Hct_12_2
            replace ct_12_3 := Hct_12_3.out
            clear Hct_12_3
            replace ct_12_4 := Hct_12_4.out
            clear Hct_12_4
            have HBY4 := Lib.hid (Below.step HBwr0.out hY4)
            replace ct_12_0 := cell_below hY4 ct_12_0
            replace ct_12_1 := cell_below hY4 ct_12_1
            replace ct_12_2 := cell_below hY4 ct_12_2
            replace ct_12_3 := cell_below hY4 ct_12_3
            replace ct_12_4 := cell_below hY4 ct_12_4
            clear hY4
            replace H := ite_t H
            obtain rfl := ret_hid H
            go_wp2_with fail
            go_ret
            exact ⟨rfl, HBY4.out⟩
          | true =>
            replace H := let_hid H
            obtain ⟨t_15, ht_15, H⟩ := H
            obtain rfl : t_15 = false := ht_15.symm
            replace H := join_hid H
            replace H := ite_f H
            replace H := let_hid H
            obtain ⟨t_18, ht_18, H⟩ := H
            replace H := join_hid H
            cases t_18 with
            | false =>
              have nht_18 : ¬ (0 < nt_12) := by have := of_decide_eq_false ht_18; omega
              replace H := ite_f H
              replace H := app_hid H
              replace H := app_hid H
              refine wp_region_quiet_below (by kernel_rfl) (by kernel_rfl) ?_
              repeat (go_big_quiet_step (first | (go_at_call 141; exact nt_14 _ _)))
              refine wpQuiet_nil ?_
              intro Y4 hY4
              replace hY4 := below_class hY4
              clear nt_14
              replace ct_12_0 := Hct_12_0.out
              clear Hct_12_0
              replace ct_12_1 := Hct_12_1.out
              clear Hct_12_1
              replace ct_12_2 := Hct_12_2.out
              clear Hct_12_2
              replace ct_12_3 := Hct_12_3.out
              clear Hct_12_3
              replace ct_12_4 := Hct_12_4.out
              clear Hct_12_4
              have HBY4 := Lib.hid (Below.step HBwr0.out hY4)
              replace ct_12_0 := cell_below hY4 ct_12_0
              replace ct_12_1 := cell_below hY4 ct_12_1
              replace ct_12_2 := cell_below hY4 ct_12_2
              replace ct_12_3 := cell_below hY4 ct_12_3
              replace ct_12_4 := cell_below hY4 ct_12_4
              clear hY4
              replace H := ite_f H
              go_wp2_with fail
              have Hct_12_0 := Lib.hid ct_12_0
              replace ct_12_0 := cell_regrown ct_12_0
              have Hct_12_1 := Lib.hid ct_12_1
              replace ct_12_1 := cell_regrown ct_12_1
              have Hct_12_2 := Lib.hid ct_12_2
              replace ct_12_2 := cell_regrown ct_12_2
              have Hct_12_3 := Lib.hid ct_12_3
              replace ct_12_3 := cell_regrown ct_12_3
              have Hct_12_4 := Lib.hid ct_12_4
              replace ct_12_4 := cell_regrown ct_12_4
              replace H := let_hid H
              obtain ⟨t_36, ht_36, H⟩ := H
              obtain rfl := ht_18.symm.trans ht_36
              replace H := join_hid H
              replace H := ite_f H
              replace H := app_hid H
              replace H := join_hid H
              replace H := ite_f H
              replace H := app_hid H
              replace H := join_hid H
              replace H := ite_f H
              replace H := app_hid H
              refine wp_region_quiet_below (by kernel_rfl) (by kernel_rfl) ?_
              repeat (go_big_quiet_step (fail))
              refine wpQuiet_nil ?_
              intro Y6 hY6
              replace hY6 := below_class hY6
              replace ct_12_0 := Hct_12_0.out
              clear Hct_12_0
              replace ct_12_1 := Hct_12_1.out
              clear Hct_12_1
              replace ct_12_2 := Hct_12_2.out
              clear Hct_12_2
              replace ct_12_3 := Hct_12_3.out
              clear Hct_12_3
              replace ct_12_4 := Hct_12_4.out
              clear Hct_12_4
              have HBY6 := Lib.hid (Below.step HBY4.out hY6)
              replace ct_12_0 := cell_below hY6 ct_12_0
              replace ct_12_1 := cell_below hY6 ct_12_1
              replace ct_12_2 := cell_below hY6 ct_12_2
              replace ct_12_3 := cell_below hY6 ct_12_3
              replace ct_12_4 := cell_below hY6 ct_12_4
              clear hY6
              replace H := ite_f H
              replace H := let_hid H
              obtain ⟨t_81, ht_81, H⟩ := H
              replace H := app_hid H
              go_wp2_with fail
              go_roundg m0
              case measure => omega
              case rel => exact ⟨_, rfl, H, HBY6⟩
            | true =>
              have nht_18 : 0 < nt_12 := by have := of_decide_eq_true ht_18; omega
              replace H := ite_t H
              replace H := let_hid H
              obtain ⟨t_22, ht_22, H⟩ := H
              replace H := idx_hid H
              obtain ⟨nt_23, yt_23, et_23, lt_23, gt_23, H⟩ := H
              subst et_23
              obtain ⟨t_23_zone, t_23_grams, t_23_from_, t_23_until_, t_23_cents⟩ := yt_23
              replace H := unRate_hid H
              obtain ⟨ab_t_23, ao_t_23, zt_23, At_23, z_t_23, ct_23_0, ct_23_1, ct_23_2, ct_23_3, ct_23_4⟩ := Go.Proofs.Ytlljmgphgmklcaa.ORate.at_ M0.out lt_23
              obtain rfl := Option.some.inj (gt_23.out.symm.trans z_t_23)
              simp only [Option.some.injEq, Addr.mk.injEq] at At_23
              obtain ⟨rfl, rfl, _⟩ := At_23
              have ltt_23 := cell_lt ct_23_0
              replace ct_23_0 := cell_below HBwr0.out ct_23_0
              replace ct_23_1 := cell_below HBwr0.out ct_23_1
              replace ct_23_2 := cell_below HBwr0.out ct_23_2
              replace ct_23_3 := cell_below HBwr0.out ct_23_3
              replace ct_23_4 := cell_below HBwr0.out ct_23_4
              clear z_t_23
              have b0t_23 : (0 : Int) ≤ (nt_23 : Int) := by omega
              have b1t_23 : (nt_23 : Int) < ((list.length : Nat) : Int) := by omega
              have b2t_23 : ((nt_23 : Int)).toNat = nt_23 := by omega
              have Hct_23_0 := Lib.hid ct_23_0
              replace ct_23_0 := cell_regrown ct_23_0
              have Hct_23_1 := Lib.hid ct_23_1
              replace ct_23_1 := cell_regrown ct_23_1
              have Hct_23_2 := Lib.hid ct_23_2
              replace ct_23_2 := cell_regrown ct_23_2
              have Hct_23_3 := Lib.hid ct_23_3
              replace ct_23_3 := cell_regrown ct_23_3
              have Hct_23_4 := Lib.hid ct_23_4
              replace ct_23_4 := cell_regrown ct_23_4
              replace H := bind_hid H
              obtain ⟨t_25, qt_25, H⟩ := H
              have nt_25 : ∀ d os, Calls Try.prog 142 #[.agg #[.int .i64 t_23_zone, .int .i64 t_23_grams, .int .i64 t_23_from_, .int .i64 t_23_until_, .int .i64 t_23_cents]] (Go.Sort.grow (redrawn wr0 d) os) fun e w'' => e = .returned (.int .i64 t_25) ∧ ∃ p : Regrown, w'' = Go.Sort.grow (redrawn wr0 p.d) p.os := fun d os => Calls.regrown_of (Go.Proofs.Ytlljmgphgmklcaa.GsL8Code.C ((Go.Proofs.Ytlljmgphgmklcaa.PRate.Rate.mk t_23_zone t_23_grams t_23_from_ t_23_until_ t_23_cents))  _    qt_25)
              replace H := idx_hid H
              obtain ⟨nt_28, yt_28, et_28, lt_28, gt_28, H⟩ := H
              obtain rfl : nt_12 = nt_28 := by omega
              clear et_28
              obtain rfl := Option.some.inj (gt_12.out.symm.trans gt_28.out)
              clear gt_28 lt_28
              replace H := unRate_hid H
              replace H := bind_hid H
              obtain ⟨t_30, qt_30, H⟩ := H
              have nt_30 : ∀ d os, Calls Try.prog 142 #[.agg #[.int .i64 t_12_zone, .int .i64 t_12_grams, .int .i64 t_12_from_, .int .i64 t_12_until_, .int .i64 t_12_cents]] (Go.Sort.grow (redrawn wr0 d) os) fun e w'' => e = .returned (.int .i64 t_30) ∧ ∃ p : Regrown, w'' = Go.Sort.grow (redrawn wr0 p.d) p.os := fun d os => Calls.regrown_of (Go.Proofs.Ytlljmgphgmklcaa.GsL8Code.C ((Go.Proofs.Ytlljmgphgmklcaa.PRate.Rate.mk t_12_zone t_12_grams t_12_from_ t_12_until_ t_12_cents))  _    qt_30)
              replace H := let_hid H
              obtain ⟨t_31, ht_31, H⟩ := H
              replace H := app_hid H
              replace H := app_hid H
              refine wp_region_quiet_below (by kernel_rfl) (by kernel_rfl) ?_
              repeat (go_big_quiet_step (first | (go_at_call 142; with_reducible exact nt_25 _ _) | (go_at_call 142; with_reducible exact nt_30 _ _) | (go_at_call 141; exact nt_14 _ _) | (go_at_call 142; exact nt_25 _ _) | (go_at_call 142; exact nt_30 _ _)))
              refine wpQuiet_nil ?_
              intro Y4 hY4
              replace hY4 := below_class hY4
              clear nt_14 nt_25 nt_30
              replace ct_12_0 := Hct_12_0.out
              clear Hct_12_0
              replace ct_12_1 := Hct_12_1.out
              clear Hct_12_1
              replace ct_12_2 := Hct_12_2.out
              clear Hct_12_2
              replace ct_12_3 := Hct_12_3.out
              clear Hct_12_3
              replace ct_12_4 := Hct_12_4.out
              clear Hct_12_4
              replace ct_23_0 := Hct_23_0.out
              clear Hct_23_0
              replace ct_23_1 := Hct_23_1.out
              clear Hct_23_1
              replace ct_23_2 := Hct_23_2.out
              clear Hct_23_2
              replace ct_23_3 := Hct_23_3.out
              clear Hct_23_3
              replace ct_23_4 := Hct_23_4.out
              clear Hct_23_4
              have HBY4 := Lib.hid (Below.step HBwr0.out hY4)
              replace ct_12_0 := cell_below hY4 ct_12_0
              replace ct_12_1 := cell_below hY4 ct_12_1
              replace ct_12_2 := cell_below hY4 ct_12_2
              replace ct_12_3 := cell_below hY4 ct_12_3
              replace ct_12_4 := cell_below hY4 ct_12_4
              replace ct_23_0 := cell_below hY4 ct_23_0
              replace ct_23_1 := cell_below hY4 ct_23_1
              replace ct_23_2 := cell_below hY4 ct_23_2
              replace ct_23_3 := cell_below hY4 ct_23_3
              replace ct_23_4 := cell_below hY4 ct_23_4
              clear hY4
              cases t_31 with
              | false =>
                replace H := ite_f H
                go_wp2_with fail
                have Hct_12_0 := Lib.hid ct_12_0
                replace ct_12_0 := cell_regrown ct_12_0
                have Hct_12_1 := Lib.hid ct_12_1
                replace ct_12_1 := cell_regrown ct_12_1
                have Hct_12_2 := Lib.hid ct_12_2
                replace ct_12_2 := cell_regrown ct_12_2
                have Hct_12_3 := Lib.hid ct_12_3
                replace ct_12_3 := cell_regrown ct_12_3
                have Hct_12_4 := Lib.hid ct_12_4
                replace ct_12_4 := cell_regrown ct_12_4
                have Hct_23_0 := Lib.hid ct_23_0
                replace ct_23_0 := cell_regrown ct_23_0
                have Hct_23_1 := Lib.hid ct_23_1
                replace ct_23_1 := cell_regrown ct_23_1
                have Hct_23_2 := Lib.hid ct_23_2
                replace ct_23_2 := cell_regrown ct_23_2
                have Hct_23_3 := Lib.hid ct_23_3
                replace ct_23_3 := cell_regrown ct_23_3
                have Hct_23_4 := Lib.hid ct_23_4
                replace ct_23_4 := cell_regrown ct_23_4
                replace H := let_hid H
                obtain ⟨t_36, ht_36, H⟩ := H
                obtain rfl := ht_18.symm.trans ht_36
                replace H := join_hid H
                replace H := ite_t H
                replace H := let_hid H
                obtain ⟨t_40, ht_40, H⟩ := H
                obtain rfl := ht_22.symm.trans ht_40
                replace H := idx_hid H
                obtain ⟨nt_41, yt_41, et_41, lt_41, gt_41, H⟩ := H
                obtain rfl : nt_23 = nt_41 := by omega
                clear et_41
                obtain rfl := Option.some.inj (gt_23.out.symm.trans gt_41.out)
                clear gt_41 lt_41
                replace H := unRate_hid H
                replace H := idx_hid H
                obtain ⟨nt_46, yt_46, et_46, lt_46, gt_46, H⟩ := H
                obtain rfl : nt_12 = nt_46 := by omega
                clear et_46
                obtain rfl := Option.some.inj (gt_12.out.symm.trans gt_46.out)
                clear gt_46 lt_46
                replace H := unRate_hid H
                replace H := let_hid H
                obtain ⟨t_49, ht_49, H⟩ := H
                replace H := app_hid H
                replace H := join_hid H
                cases t_49 with
                | false =>
                  replace H := ite_f H
                  replace H := app_hid H
                  replace H := join_hid H
                  replace H := ite_f H
                  replace H := app_hid H
                  refine wp_region_quiet_below (by kernel_rfl) (by kernel_rfl) ?_
                  repeat (go_big_quiet_step (fail))
                  refine wpQuiet_nil ?_
                  intro Y6 hY6
                  replace hY6 := below_class hY6
                  replace ct_12_0 := Hct_12_0.out
                  clear Hct_12_0
                  replace ct_12_1 := Hct_12_1.out
                  clear Hct_12_1
                  replace ct_12_2 := Hct_12_2.out
                  clear Hct_12_2
                  replace ct_12_3 := Hct_12_3.out
                  clear Hct_12_3
                  replace ct_12_4 := Hct_12_4.out
                  clear Hct_12_4
                  replace ct_23_0 := Hct_23_0.out
                  clear Hct_23_0
                  replace ct_23_1 := Hct_23_1.out
                  clear Hct_23_1
                  replace ct_23_2 := Hct_23_2.out
                  clear Hct_23_2
                  replace ct_23_3 := Hct_23_3.out
                  clear Hct_23_3
                  replace ct_23_4 := Hct_23_4.out
                  clear Hct_23_4
                  have HBY6 := Lib.hid (Below.step HBY4.out hY6)
                  replace ct_12_0 := cell_below hY6 ct_12_0
                  replace ct_12_1 := cell_below hY6 ct_12_1
                  replace ct_12_2 := cell_below hY6 ct_12_2
                  replace ct_12_3 := cell_below hY6 ct_12_3
                  replace ct_12_4 := cell_below hY6 ct_12_4
                  replace ct_23_0 := cell_below hY6 ct_23_0
                  replace ct_23_1 := cell_below hY6 ct_23_1
                  replace ct_23_2 := cell_below hY6 ct_23_2
                  replace ct_23_3 := cell_below hY6 ct_23_3
                  replace ct_23_4 := cell_below hY6 ct_23_4
                  clear hY6
                  replace H := ite_f H
                  replace H := let_hid H
                  obtain ⟨t_81, ht_81, H⟩ := H
                  replace H := app_hid H
                  go_wp2_with fail
                  go_roundg m0
                  case measure => omega
                  case rel => exact ⟨_, rfl, H, HBY6⟩
                | true =>
                  replace H := ite_t H
                  replace H := let_hid H
                  obtain ⟨t_54, ht_54, H⟩ := H
                  obtain rfl := ht_22.symm.trans ht_54
                  replace H := idx_hid H
                  obtain ⟨nt_55, yt_55, et_55, lt_55, gt_55, H⟩ := H
                  obtain rfl : nt_23 = nt_55 := by omega
                  clear et_55
                  obtain rfl := Option.some.inj (gt_23.out.symm.trans gt_55.out)
                  clear gt_55 lt_55
                  replace H := unRate_hid H
                  replace H := idx_hid H
                  obtain ⟨nt_60, yt_60, et_60, lt_60, gt_60, H⟩ := H
                  obtain rfl : nt_12 = nt_60 := by omega
                  clear et_60
                  obtain rfl := Option.some.inj (gt_12.out.symm.trans gt_60.out)
                  clear gt_60 lt_60
                  replace H := unRate_hid H
                  replace H := let_hid H
                  obtain ⟨t_63, ht_63, H⟩ := H
                  replace H := app_hid H
                  replace H := join_hid H
                  cases t_63 with
                  | false =>
                    replace H := ite_f H
                    replace H := app_hid H
                    refine wp_region_quiet_below (by kernel_rfl) (by kernel_rfl) ?_
                    repeat (go_big_quiet_step (fail))
                    refine wpQuiet_nil ?_
                    intro Y6 hY6
                    replace hY6 := below_class hY6
                    replace ct_12_0 := Hct_12_0.out
                    clear Hct_12_0
                    replace ct_12_1 := Hct_12_1.out
                    clear Hct_12_1
                    replace ct_12_2 := Hct_12_2.out
                    clear Hct_12_2
                    replace ct_12_3 := Hct_12_3.out
                    clear Hct_12_3
                    replace ct_12_4 := Hct_12_4.out
                    clear Hct_12_4
                    replace ct_23_0 := Hct_23_0.out
                    clear Hct_23_0
                    replace ct_23_1 := Hct_23_1.out
                    clear Hct_23_1
                    replace ct_23_2 := Hct_23_2.out
                    clear Hct_23_2
                    replace ct_23_3 := Hct_23_3.out
                    clear Hct_23_3
                    replace ct_23_4 := Hct_23_4.out
                    clear Hct_23_4
                    have HBY6 := Lib.hid (Below.step HBY4.out hY6)
                    replace ct_12_0 := cell_below hY6 ct_12_0
                    replace ct_12_1 := cell_below hY6 ct_12_1
                    replace ct_12_2 := cell_below hY6 ct_12_2
                    replace ct_12_3 := cell_below hY6 ct_12_3
                    replace ct_12_4 := cell_below hY6 ct_12_4
                    replace ct_23_0 := cell_below hY6 ct_23_0
                    replace ct_23_1 := cell_below hY6 ct_23_1
                    replace ct_23_2 := cell_below hY6 ct_23_2
                    replace ct_23_3 := cell_below hY6 ct_23_3
                    replace ct_23_4 := cell_below hY6 ct_23_4
                    clear hY6
                    replace H := ite_f H
                    replace H := let_hid H
                    obtain ⟨t_81, ht_81, H⟩ := H
                    replace H := app_hid H
                    go_wp2_with fail
                    go_roundg m0
                    case measure => omega
                    case rel => exact ⟨_, rfl, H, HBY6⟩
                  | true =>
                    replace H := ite_t H
                    replace H := let_hid H
                    obtain ⟨t_68, ht_68, H⟩ := H
                    obtain rfl := ht_22.symm.trans ht_68
                    replace H := idx_hid H
                    obtain ⟨nt_69, yt_69, et_69, lt_69, gt_69, H⟩ := H
                    obtain rfl : nt_23 = nt_69 := by omega
                    clear et_69
                    obtain rfl := Option.some.inj (gt_23.out.symm.trans gt_69.out)
                    clear gt_69 lt_69
                    replace H := unRate_hid H
                    replace H := idx_hid H
                    obtain ⟨nt_74, yt_74, et_74, lt_74, gt_74, H⟩ := H
                    obtain rfl : nt_12 = nt_74 := by omega
                    clear et_74
                    obtain rfl := Option.some.inj (gt_12.out.symm.trans gt_74.out)
                    clear gt_74 lt_74
                    replace H := unRate_hid H
                    replace H := let_hid H
                    obtain ⟨t_77, ht_77, H⟩ := H
                    replace H := app_hid H
                    refine wp_region_quiet_below (by kernel_rfl) (by kernel_rfl) ?_
                    repeat (go_big_quiet_step (fail))
                    refine wpQuiet_nil ?_
                    intro Y6 hY6
                    replace hY6 := below_class hY6
                    replace ct_12_0 := Hct_12_0.out
                    clear Hct_12_0
                    replace ct_12_1 := Hct_12_1.out
                    clear Hct_12_1
                    replace ct_12_2 := Hct_12_2.out
                    clear Hct_12_2
                    replace ct_12_3 := Hct_12_3.out
                    clear Hct_12_3
                    replace ct_12_4 := Hct_12_4.out
                    clear Hct_12_4
                    replace ct_23_0 := Hct_23_0.out
                    clear Hct_23_0
                    replace ct_23_1 := Hct_23_1.out
                    clear Hct_23_1
                    replace ct_23_2 := Hct_23_2.out
                    clear Hct_23_2
                    replace ct_23_3 := Hct_23_3.out
                    clear Hct_23_3
                    replace ct_23_4 := Hct_23_4.out
                    clear Hct_23_4
                    have HBY6 := Lib.hid (Below.step HBY4.out hY6)
                    replace ct_12_0 := cell_below hY6 ct_12_0
                    replace ct_12_1 := cell_below hY6 ct_12_1
                    replace ct_12_2 := cell_below hY6 ct_12_2
                    replace ct_12_3 := cell_below hY6 ct_12_3
                    replace ct_12_4 := cell_below hY6 ct_12_4
                    replace ct_23_0 := cell_below hY6 ct_23_0
                    replace ct_23_1 := cell_below hY6 ct_23_1
                    replace ct_23_2 := cell_below hY6 ct_23_2
                    replace ct_23_3 := cell_below hY6 ct_23_3
                    replace ct_23_4 := cell_below hY6 ct_23_4
                    clear hY6
                    cases t_77 with
                    | false =>
                      replace H := ite_f H
                      replace H := let_hid H
                      obtain ⟨t_81, ht_81, H⟩ := H
                      replace H := app_hid H
                      go_wp2_with fail
                      go_roundg m0
                      case measure => omega
                      case rel => exact ⟨_, rfl, H, HBY6⟩
                    | true =>
                      replace H := ite_t H
                      obtain rfl := ret_hid H
                      go_wp2_with fail
                      go_ret
                      exact ⟨rfl, HBY6.out⟩
              | true =>
                replace H := ite_t H
                obtain rfl := ret_hid H
                go_wp2_with fail
                go_ret
                exact ⟨rfl, HBY4.out⟩
end Go.Proofs.Ytlljmgphgmklcaa.GsL8Good

/- Chapter 8: rates: the plain functions of the program and of the reference agree, and the laws answer true. (Q8List) No condition but those of each theorem. -/
namespace Go.Proofs.Ytlljmgphgmklcaa.Q8List
set_option linter.unusedVariables false
set_option linter.unusedSimpArgs false
open Go.RowKit
open Go.Proofs.Ytlljmgphgmklcaa.GoP Go.Proofs.Ytlljmgphgmklcaa.PlainStamp Go.Proofs.Ytlljmgphgmklcaa.QBase Go.Proofs.Ytlljmgphgmklcaa.QRiseL Go.Proofs.Ytlljmgphgmklcaa.QOrd Go.Proofs.Ytlljmgphgmklcaa.Q8Rate Go.Proofs.Ytlljmgphgmklcaa.QLoop Go.Proofs.Ytlljmgphgmklcaa.PRate

def okRs (l : List Rate) : Bool := riseL 16 okR linkR l
theorem areRates_eq (l : List Rate) (hl : l.length ≤ 9223372036854775807) : GiAreRates.P l = some (okRs l) := by
  simp only [GiAreRates.P, letK, iteK_if]
  by_cases h12 : l.length ≤ 16
  · rw [if_neg (by simp; omega), rise_loop (ok := okR) (lt := linkR) (no := false)]
    · unfold okRs riseL; cases riseTo okR linkR l l.length <;> simp [h12, GiAreRates.e0]
    · intro k nx s hs
      have hi : idx l (k : Int) = some s := by rw [idx_nat, hs]
      have hk : k < l.length := (List.getElem?_eq_some_iff.1 hs).1
      simp only [GiAreRates.l0, hi, Option.bind_some, unRate, isRate_eq, letK, joinK, appK, iteK_if]
      refine ⟨fun h => by simp [h], fun h => ⟨fun h0 => by subst h0; simp [h], fun h0 r hr => ?_⟩⟩
      rw [idx_pred h0 (by omega) hr]
      have hk0 : (0 : Int) < (k : Int) := by omega
      have hk1 : ¬ k = 0 := by omega
      exact ⟨fun hlt => by simp [h, hk0, hk1, canFollow_eq, hlt], fun hge => by simp [h, hk0, hk1, canFollow_eq, hge]⟩
  · rw [if_pos (by simp; omega)]; unfold okRs riseL; simp [h12]
theorem l8Good_eq {fuel : Nat} (l : List Rate) (hl : l.length ≤ 9223372036854775807) (hf : 17 < fuel) : GsL8Good.P fuel l = some (okRs l) := by
  simp only [GsL8Good.P]
  have key := rise_lp (ok := okR) (lt := linkR) (l := l) (m := 16) (no := false) (yes := some true) (f := GsL8Good.l0 l) (fin := GsL8Good.e0 l) ?_ ?_ ?_ fuel 0 (by omega) (by omega) (by omega) rfl
  · rw [show ((0 : Nat) : Int) = 0 from rfl] at key
    rw [key]; unfold okRs; cases riseL 16 okR linkR l <;> rfl
  · intro k nx hs h1 h2
    simp only [GsL8Good.l0, letK, joinK, appK, iteK_if]
    by_cases hk : l.length ≤ k
    · have : ¬ ((k : Int) < (l.length : Int)) := by omega
      simp [this]
    · have h3 : ((k : Int) < (l.length : Int)) := by omega
      have h4 : ¬ ((k : Int) ≤ 16) := by omega
      simp [h3, h4]
  · intro k
    simp only [GsL8Good.e0, letK]
    by_cases h : l.length ≤ 16
    · rw [if_pos h]; simp; omega
    · rw [if_neg h]; simp; omega
  · intro k nx s hk16 hs
    have hi : idx l (k : Int) = some s := by rw [idx_nat, hs]
    have hk : k < l.length := (List.getElem?_eq_some_iff.1 hs).1
    have h1 : ((k : Int) < (l.length : Int)) := by omega
    have h2 : (k : Int) ≤ 16 := by omega
    have hw : IntKind.i64.wrap ((k : Int) + 1) = ((k + 1 : Nat) : Int) := by rw [wrap_in (by omega) (by omega)]; omega
    simp only [GsL8Good.l0, letK, joinK, appK, iteK_if, decide_eq_true h1, decide_eq_true h2, if_true, hi, Option.bind_some, unRate, l8One_eq, hw]
    refine ⟨fun h => by simp [h], fun h => ⟨fun h0 => by subst h0; simp [h], fun h0 r hr hokr => ?_⟩⟩
    rw [idx_pred h0 (by omega) hr]
    have hk0 : (0 : Int) < (k : Int) := by omega
    have hk1 : ¬ k = 0 := by omega
    simp only [Option.bind_some, l8Code_eq h, l8Code_eq hokr, link_code hokr h]
    have he : ∀ x : Rate, Rate.mk x.zone x.grams x.from_ x.until_ x.cents = x := fun x => rfl
    simp only [h, decide_eq_true hk0, Bool.not_true, Bool.false_eq_true, if_false, if_true]
    constructor
    · intro hlt
      simp only [Bool.and_eq_true, decide_eq_true_eq, Bool.not_eq_true'] at hlt
      obtain ⟨c1, c2⟩ := hlt
      have : ¬ (codeR s ≤ codeR r) := by omega
      by_cases e1 : r.zone = s.zone
      · by_cases e2 : r.grams = s.grams
        · have e3 : ¬ (s.from_ ≤ r.until_) := by simpa [e1, e2] using c2
          simp [this, e1, e2, e3]
        · simp [this, e1, e2]
      · simp [this, e1]
    · intro hge
      by_cases c1 : codeR r < codeR s
      · have : ¬ (codeR s ≤ codeR r) := by omega
        simp only [decide_eq_true c1, Bool.true_and, Bool.not_eq_false', Bool.and_eq_true, decide_eq_true_eq] at hge
        simp [this, hge.1.1, hge.1.2, hge.2]
      · have : codeR s ≤ codeR r := by omega
        simp [this]
theorem rs_mem {l : List Rate} (h : okRs l = true) {x : Rate} (hx : x ∈ l) : okR x = true := riseL_mem h hx
end Go.Proofs.Ytlljmgphgmklcaa.Q8List

/- loop.example/g01062/impl.rateOn as a plain function, and the contract of the program's: where the plain one has an answer, the program has it. Conditions: slices read as lists. -/
namespace Go.Proofs.Ytlljmgphgmklcaa.GiRateOn
set_option linter.unusedVariables false
set_option linter.unusedSimpArgs false
open Go.RowKit
open Go.Proofs.Ytlljmgphgmklcaa.Rowed Go.Proofs.Ytlljmgphgmklcaa.Turn Go.Proofs.Ytlljmgphgmklcaa.Aid Go.Proofs.Ytlljmgphgmklcaa.GoP Go.Proofs.Ytlljmgphgmklcaa.GoM

def l0 (list : (List Go.Proofs.Ytlljmgphgmklcaa.PRate.Rate)) (day : Int) (zone : Int) (grams : Int) (k0 : Nat) (s : Unit) (nx0 bk0 : Unit → Option (Int)) : Option (Int) :=
  
  Option.bind (idx list (k0 : Int)) fun (yt_5 : Go.Proofs.Ytlljmgphgmklcaa.PRate.Rate) =>
  unRate yt_5 fun (t_5_zone : Int) (t_5_grams : Int) (t_5_from_ : Int) (t_5_until_ : Int) (t_5_cents : Int) =>
  letK (t_5_zone == zone) fun (t_12 : Bool) =>
  joinK (fun (t_18 : Bool) =>
  joinK (fun (t_26 : Bool) =>
  iteK t_26
  (some t_5_cents)
  (appK nx0 ())) fun jt_26 => iteK t_18 (Option.bind (Go.Proofs.Ytlljmgphgmklcaa.GiWithin.P day t_5_from_ t_5_until_) fun (t_25 : Bool) =>
  appK jt_26 t_25) (appK jt_26 false)) fun jt_18 => iteK t_12 (letK (decide (grams ≤ t_5_grams)) fun (t_17 : Bool) =>
  appK jt_18 t_17) (appK jt_18 false)

def e0  (s : Unit) : Option (Int) :=
  
  some 0

def P (list : (List Go.Proofs.Ytlljmgphgmklcaa.PRate.Rate)) (day : Int) (zone : Int) (grams : Int) : Option (Int) :=
  cntK (l0 list day zone grams) (list.length) 0 () (e0 )

set_option maxRecDepth 100000 in
set_option maxHeartbeats 2000000 in
theorem C (list : (List Go.Proofs.Ytlljmgphgmklcaa.PRate.Rate)) (day : Int) (zone : Int) (grams : Int) (A0 : Option Addr) (c0 : Nat)  (w : World) (M0 : Hid (Cells w 5 A0 list.length (Go.Proofs.Ytlljmgphgmklcaa.PRate.flat list))) (N0 : Hid (list.length ≤ 9223372036854775807))  {r : Int} (H : Hid (P list day zone grams = some r)) :
    Calls Try.prog 131 #[.slice A0 list.length c0, .int .i64 day, .int .i64 zone, .int .i64 grams] w (Gives (.int .i64 r) w) := by
  have HB := Lib.hid (Below.refl w.heap.size w)
  unfold P at H
  have N0o := N0.out
  go_enter Try.func131, Try.ntmps131
  go_wp2_with fail
  go_loopg [13] (list.length) (fun m_ v13_ wr => ∃ (k0 : Nat) , k0 + m_ = list.length ∧ v13_ = .int .i64 (k0 : Int) ∧ Hid (cntK (l0 list day zone grams) m_ k0 () (e0 ) = some r) ∧ Hid (Below w.heap.size w wr))
  case atStart => exact ⟨0, by omega, rfl, H, HB⟩
  case round =>
    obtain ⟨k0, hkm0, rfl, H, HBwr0⟩ := hrel
    rename World => wr0
    cases gk with
    | zero =>
      obtain rfl : k0 = list.length := by omega
      have hc0 : decide (((list.length : Nat) : Int) < ((list.length : Nat) : Int)) = false := by simp
      replace H := cnt_zero H
      unfold e0 at H
      obtain rfl := ret_hid H
      go_wp2_with fail
      go_ret
      exact ⟨rfl, HBwr0.out⟩
    | succ m0 =>
      have hlt0 : k0 < list.length := by omega
      have hc0 : decide ((k0 : Int) < ((list.length : Nat) : Int)) = true := by simp; omega
      replace H := cnt_succ H
      unfold l0 at H
      replace H := idx_hid H
      obtain ⟨nt_5, yt_5, et_5, lt_5, gt_5, H⟩ := H
      obtain rfl : k0 = nt_5 := by omega
      clear et_5
      obtain ⟨t_5_zone, t_5_grams, t_5_from_, t_5_until_, t_5_cents⟩ := yt_5
      replace H := unRate_hid H
      obtain ⟨ab_t_5, ao_t_5, zt_5, At_5, z_t_5, ct_5_0, ct_5_1, ct_5_2, ct_5_3, ct_5_4⟩ := Go.Proofs.Ytlljmgphgmklcaa.ORate.at_ M0.out lt_5
      obtain rfl := Option.some.inj (gt_5.out.symm.trans z_t_5)
      subst At_5
      have ltt_5 := cell_lt ct_5_0
      replace ct_5_0 := cell_below HBwr0.out ct_5_0
      replace ct_5_1 := cell_below HBwr0.out ct_5_1
      replace ct_5_2 := cell_below HBwr0.out ct_5_2
      replace ct_5_3 := cell_below HBwr0.out ct_5_3
      replace ct_5_4 := cell_below HBwr0.out ct_5_4
      clear z_t_5
      have b0t_5 : (0 : Int) ≤ (k0 : Int) := by omega
      have b1t_5 : (k0 : Int) < ((list.length : Nat) : Int) := by omega
      have b2t_5 : ((k0 : Int)).toNat = k0 := by omega
      obtain ⟨w_r_7, hw_r_7⟩ : ∃ x, wr0.alloc (.cells #[.int .i64 t_5_zone, .int .i64 t_5_grams, .int .i64 t_5_from_, .int .i64 t_5_until_, .int .i64 t_5_cents] 104) = x := ⟨_, rfl⟩
      have bw_r_7 : Below wr0.heap.size wr0 w_r_7 := by rw [← hw_r_7]; exact (Below.refl _ _).alloc (Nat.le_refl _) _
      have HBw_r_7 := Lib.hid (Below.step HBwr0.out bw_r_7)
      have ct_5_0__638 := cell_below bw_r_7 ct_5_0
      have ct_5_1__639 := cell_below bw_r_7 ct_5_1
      have ct_5_2__640 := cell_below bw_r_7 ct_5_2
      have ct_5_3__641 := cell_below bw_r_7 ct_5_3
      have ct_5_4__642 := cell_below bw_r_7 ct_5_4
      clear bw_r_7
      have kr_7_0 : w_r_7.cell? ⟨wr0.heap.size, 0, none⟩ = some (.int .i64 t_5_zone) := by rw [← hw_r_7]; exact box_new _ _ _ 0 _ rfl
      have kr_7_1 : w_r_7.cell? ⟨wr0.heap.size, 1, none⟩ = some (.int .i64 t_5_grams) := by rw [← hw_r_7]; exact box_new _ _ _ 1 _ rfl
      have kr_7_2 : w_r_7.cell? ⟨wr0.heap.size, 2, none⟩ = some (.int .i64 t_5_from_) := by rw [← hw_r_7]; exact box_new _ _ _ 2 _ rfl
      have kr_7_3 : w_r_7.cell? ⟨wr0.heap.size, 3, none⟩ = some (.int .i64 t_5_until_) := by rw [← hw_r_7]; exact box_new _ _ _ 3 _ rfl
      have kr_7_4 : w_r_7.cell? ⟨wr0.heap.size, 4, none⟩ = some (.int .i64 t_5_cents) := by rw [← hw_r_7]; exact box_new _ _ _ 4 _ rfl
      replace H := let_hid H
      obtain ⟨t_12, ht_12, H⟩ := H
      replace H := join_hid H
      cases t_12 with
      | false =>
        replace H := ite_f H
        replace H := app_hid H
        replace H := join_hid H
        replace H := ite_f H
        replace H := app_hid H
        replace H := ite_f H
        replace H := app_hid H
        go_wp2_with fail
        clear ct_5_0 ct_5_1 ct_5_2 ct_5_3 ct_5_4
        go_roundg m0
        case measure => omega
        case rel => exact ⟨k0 + 1, by omega, by go_num, H, HBw_r_7⟩
      | true =>
        replace H := ite_t H
        replace H := let_hid H
        obtain ⟨t_17, ht_17, H⟩ := H
        replace H := app_hid H
        replace H := join_hid H
        cases t_17 with
        | false =>
          replace H := ite_f H
          replace H := app_hid H
          replace H := ite_f H
          replace H := app_hid H
          go_wp2_with fail
          clear ct_5_0 ct_5_1 ct_5_2 ct_5_3 ct_5_4
          go_roundg m0
          case measure => omega
          case rel => exact ⟨k0 + 1, by omega, by go_num, H, HBw_r_7⟩
        | true =>
          replace H := ite_t H
          replace H := bind_hid H
          obtain ⟨t_25, qt_25, H⟩ := H
          go_wp2_with fail
          clear ct_5_0 ct_5_1 ct_5_2 ct_5_3 ct_5_4
          go_at_call 78
          refine (Go.Proofs.Ytlljmgphgmklcaa.GiWithin.C (day) (t_5_from_) (t_5_until_)  _    qt_25).mono ?_
          rintro e_t_25 wt_25 ⟨rfl, bt_25⟩
          have HBwt_25 := Lib.hid (Below.step HBw_r_7.out bt_25)
          replace ct_5_0__638 := cell_below bt_25 ct_5_0__638
          replace ct_5_1__639 := cell_below bt_25 ct_5_1__639
          replace ct_5_2__640 := cell_below bt_25 ct_5_2__640
          replace ct_5_3__641 := cell_below bt_25 ct_5_3__641
          replace ct_5_4__642 := cell_below bt_25 ct_5_4__642
          replace kr_7_0 := cell_below bt_25 kr_7_0
          replace kr_7_1 := cell_below bt_25 kr_7_1
          replace kr_7_2 := cell_below bt_25 kr_7_2
          replace kr_7_3 := cell_below bt_25 kr_7_3
          replace kr_7_4 := cell_below bt_25 kr_7_4
          clear bt_25
          replace H := app_hid H
          cases t_25 with
          | false =>
            replace H := ite_f H
            replace H := app_hid H
            go_wp2_with fail
            go_roundg m0
            case measure => omega
            case rel => exact ⟨k0 + 1, by omega, by go_num, H, HBwt_25⟩
          | true =>
            replace H := ite_t H
            obtain rfl := ret_hid H
            go_wp2_with fail
            go_ret
            exact ⟨rfl, HBwt_25.out⟩
end Go.Proofs.Ytlljmgphgmklcaa.GiRateOn

/- loop.example/g01062/spec.l8For as a plain function, and the contract of the program's: where the plain one has an answer, the program has it. Conditions: slices read as lists. -/
namespace Go.Proofs.Ytlljmgphgmklcaa.GsL8For
set_option linter.unusedVariables false
set_option linter.unusedSimpArgs false
open Go.RowKit
open Go.Proofs.Ytlljmgphgmklcaa.Rowed Go.Proofs.Ytlljmgphgmklcaa.Turn Go.Proofs.Ytlljmgphgmklcaa.Aid Go.Proofs.Ytlljmgphgmklcaa.GoP Go.Proofs.Ytlljmgphgmklcaa.GoM

def l0 (list : (List Go.Proofs.Ytlljmgphgmklcaa.PRate.Rate)) (day : Int) (zone : Int) (grams : Int) (k0 : Nat) (s : Unit) (nx0 bk0 : Unit → Option (Int)) : Option (Int) :=
  
  Option.bind (idx list (k0 : Int)) fun (yt_8 : Go.Proofs.Ytlljmgphgmklcaa.PRate.Rate) =>
  unRate yt_8 fun (t_8_zone : Int) (t_8_grams : Int) (t_8_from_ : Int) (t_8_until_ : Int) (t_8_cents : Int) =>
  letK (t_8_zone == zone) fun (t_15 : Bool) =>
  joinK (fun (t_21 : Bool) =>
  joinK (fun (t_29 : Bool) =>
  iteK t_29
  (some t_8_cents)
  (appK nx0 ())) fun jt_29 => iteK t_21 (Option.bind (Go.Proofs.Ytlljmgphgmklcaa.GsL1In.P day t_8_from_ t_8_until_) fun (t_28 : Bool) =>
  appK jt_29 t_28) (appK jt_29 false)) fun jt_21 => iteK t_15 (letK (decide (grams ≤ t_8_grams)) fun (t_20 : Bool) =>
  appK jt_21 t_20) (appK jt_21 false)

def e0  (s : Unit) : Option (Int) :=
  
  some 0

def P (list : (List Go.Proofs.Ytlljmgphgmklcaa.PRate.Rate)) (day : Int) (zone : Int) (grams : Int) : Option (Int) :=
  cntK (l0 list day zone grams) (list.length) 0 () (e0 )

set_option maxRecDepth 100000 in
set_option maxHeartbeats 2000000 in
theorem C (list : (List Go.Proofs.Ytlljmgphgmklcaa.PRate.Rate)) (day : Int) (zone : Int) (grams : Int) (A0 : Option Addr) (c0 : Nat)  (w : World) (M0 : Hid (Cells w 5 A0 list.length (Go.Proofs.Ytlljmgphgmklcaa.PRate.flat list))) (N0 : Hid (list.length ≤ 9223372036854775807))  {r : Int} (H : Hid (P list day zone grams = some r)) :
    Calls Try.prog 100 #[.slice A0 list.length c0, .int .i64 day, .int .i64 zone, .int .i64 grams] w (Gives (.int .i64 r) w) := by
  have HB := Lib.hid (Below.refl w.heap.size w)
  unfold P at H
  have N0o := N0.out
  go_enter Try.func100, Try.ntmps100
  go_wp2_with fail
  go_loopg [9] (list.length) (fun m_ v9_ wr => ∃ (k0 : Nat) , k0 + m_ = list.length ∧ v9_ = .int .i64 (k0 : Int) ∧ Hid (cntK (l0 list day zone grams) m_ k0 () (e0 ) = some r) ∧ Hid (Below w.heap.size w wr))
  case atStart => exact ⟨0, by omega, rfl, H, HB⟩
  case round =>
    obtain ⟨k0, hkm0, rfl, H, HBwr0⟩ := hrel
    rename World => wr0
    cases gk with
    | zero =>
      obtain rfl : k0 = list.length := by omega
      have hc0 : decide (((list.length : Nat) : Int) < ((list.length : Nat) : Int)) = false := by simp
      replace H := cnt_zero H
      unfold e0 at H
      obtain rfl := ret_hid H
      go_wp2_with fail
      go_ret
      exact ⟨rfl, HBwr0.out⟩
    | succ m0 =>
      have hlt0 : k0 < list.length := by omega
      have hc0 : decide ((k0 : Int) < ((list.length : Nat) : Int)) = true := by simp; omega
      replace H := cnt_succ H
      unfold l0 at H
      replace H := idx_hid H
      obtain ⟨nt_8, yt_8, et_8, lt_8, gt_8, H⟩ := H
      obtain rfl : k0 = nt_8 := by omega
      clear et_8
      obtain ⟨t_8_zone, t_8_grams, t_8_from_, t_8_until_, t_8_cents⟩ := yt_8
      replace H := unRate_hid H
      obtain ⟨ab_t_8, ao_t_8, zt_8, At_8, z_t_8, ct_8_0, ct_8_1, ct_8_2, ct_8_3, ct_8_4⟩ := Go.Proofs.Ytlljmgphgmklcaa.ORate.at_ M0.out lt_8
      obtain rfl := Option.some.inj (gt_8.out.symm.trans z_t_8)
      subst At_8
      have ltt_8 := cell_lt ct_8_0
      replace ct_8_0 := cell_below HBwr0.out ct_8_0
      replace ct_8_1 := cell_below HBwr0.out ct_8_1
      replace ct_8_2 := cell_below HBwr0.out ct_8_2
      replace ct_8_3 := cell_below HBwr0.out ct_8_3
      replace ct_8_4 := cell_below HBwr0.out ct_8_4
      clear z_t_8
      have b0t_8 : (0 : Int) ≤ (k0 : Int) := by omega
      have b1t_8 : (k0 : Int) < ((list.length : Nat) : Int) := by omega
      have b2t_8 : ((k0 : Int)).toNat = k0 := by omega
      obtain ⟨w_r_10, hw_r_10⟩ : ∃ x, wr0.alloc (.cells #[.int .i64 t_8_zone, .int .i64 t_8_grams, .int .i64 t_8_from_, .int .i64 t_8_until_, .int .i64 t_8_cents] 104) = x := ⟨_, rfl⟩
      have bw_r_10 : Below wr0.heap.size wr0 w_r_10 := by rw [← hw_r_10]; exact (Below.refl _ _).alloc (Nat.le_refl _) _
      have HBw_r_10 := Lib.hid (Below.step HBwr0.out bw_r_10)
      have ct_8_0__495 := cell_below bw_r_10 ct_8_0
      have ct_8_1__496 := cell_below bw_r_10 ct_8_1
      have ct_8_2__497 := cell_below bw_r_10 ct_8_2
      have ct_8_3__498 := cell_below bw_r_10 ct_8_3
      have ct_8_4__499 := cell_below bw_r_10 ct_8_4
      clear bw_r_10
      have kr_10_0 : w_r_10.cell? ⟨wr0.heap.size, 0, none⟩ = some (.int .i64 t_8_zone) := by rw [← hw_r_10]; exact box_new _ _ _ 0 _ rfl
      have kr_10_1 : w_r_10.cell? ⟨wr0.heap.size, 1, none⟩ = some (.int .i64 t_8_grams) := by rw [← hw_r_10]; exact box_new _ _ _ 1 _ rfl
      have kr_10_2 : w_r_10.cell? ⟨wr0.heap.size, 2, none⟩ = some (.int .i64 t_8_from_) := by rw [← hw_r_10]; exact box_new _ _ _ 2 _ rfl
      have kr_10_3 : w_r_10.cell? ⟨wr0.heap.size, 3, none⟩ = some (.int .i64 t_8_until_) := by rw [← hw_r_10]; exact box_new _ _ _ 3 _ rfl
      have kr_10_4 : w_r_10.cell? ⟨wr0.heap.size, 4, none⟩ = some (.int .i64 t_8_cents) := by rw [← hw_r_10]; exact box_new _ _ _ 4 _ rfl
      replace H := let_hid H
      obtain ⟨t_15, ht_15, H⟩ := H
      replace H := join_hid H
      cases t_15 with
      | false =>
        replace H := ite_f H
        replace H := app_hid H
        replace H := join_hid H
        replace H := ite_f H
        replace H := app_hid H
        replace H := ite_f H
        replace H := app_hid H
        go_wp2_with fail
        clear ct_8_0 ct_8_1 ct_8_2 ct_8_3 ct_8_4
        go_roundg m0
        case measure => omega
        case rel => exact ⟨k0 + 1, by omega, by go_num, H, HBw_r_10⟩
      | true =>
        replace H := ite_t H
        replace H := let_hid H
        obtain ⟨t_20, ht_20, H⟩ := H
        replace H := app_hid H
        replace H := join_hid H
        cases t_20 with
        | false =>
          replace H := ite_f H
          replace H := app_hid H
          replace H := ite_f H
          replace H := app_hid H
          go_wp2_with fail
          clear ct_8_0 ct_8_1 ct_8_2 ct_8_3 ct_8_4
          go_roundg m0
          case measure => omega
          case rel => exact ⟨k0 + 1, by omega, by go_num, H, HBw_r_10⟩
        | true =>
          replace H := ite_t H
          replace H := bind_hid H
          obtain ⟨t_28, qt_28, H⟩ := H
          go_wp2_with fail
          clear ct_8_0 ct_8_1 ct_8_2 ct_8_3 ct_8_4
          go_at_call 113
          refine (Go.Proofs.Ytlljmgphgmklcaa.GsL1In.C (day) (t_8_from_) (t_8_until_)  _    qt_28).mono ?_
          rintro e_t_28 wt_28 ⟨rfl, bt_28⟩
          have HBwt_28 := Lib.hid (Below.step HBw_r_10.out bt_28)
          replace ct_8_0__495 := cell_below bt_28 ct_8_0__495
          replace ct_8_1__496 := cell_below bt_28 ct_8_1__496
          replace ct_8_2__497 := cell_below bt_28 ct_8_2__497
          replace ct_8_3__498 := cell_below bt_28 ct_8_3__498
          replace ct_8_4__499 := cell_below bt_28 ct_8_4__499
          replace kr_10_0 := cell_below bt_28 kr_10_0
          replace kr_10_1 := cell_below bt_28 kr_10_1
          replace kr_10_2 := cell_below bt_28 kr_10_2
          replace kr_10_3 := cell_below bt_28 kr_10_3
          replace kr_10_4 := cell_below bt_28 kr_10_4
          clear bt_28
          replace H := app_hid H
          cases t_28 with
          | false =>
            replace H := ite_f H
            replace H := app_hid H
            go_wp2_with fail
            go_roundg m0
            case measure => omega
            case rel => exact ⟨k0 + 1, by omega, by go_num, H, HBwt_28⟩
          | true =>
            replace H := ite_t H
            obtain rfl := ret_hid H
            go_wp2_with fail
            go_ret
            exact ⟨rfl, HBwt_28.out⟩
end Go.Proofs.Ytlljmgphgmklcaa.GsL8For

/- loop.example/g01062/impl.canSend as a plain function, and the contract of the program's: where the plain one has an answer, the program has it. Conditions: slices read as lists. -/
namespace Go.Proofs.Ytlljmgphgmklcaa.GiCanSend
set_option linter.unusedVariables false
set_option linter.unusedSimpArgs false
open Go.RowKit
open Go.Proofs.Ytlljmgphgmklcaa.Rowed Go.Proofs.Ytlljmgphgmklcaa.Turn Go.Proofs.Ytlljmgphgmklcaa.Aid Go.Proofs.Ytlljmgphgmklcaa.GoP Go.Proofs.Ytlljmgphgmklcaa.GoM

def P (list : (List Go.Proofs.Ytlljmgphgmklcaa.PRate.Rate)) (zone : Int) (grams : Int) : Option (Bool) :=
  Option.bind (Go.Proofs.Ytlljmgphgmklcaa.GiAreRates.P list) fun (t_2 : Bool) =>
  joinK (fun (t_6 : Bool) =>
  joinK (fun (t_10 : Bool) =>
  some t_10) fun jt_10 => iteK t_6 (Option.bind (Go.Proofs.Ytlljmgphgmklcaa.GiIsWeight.P grams) fun (t_9 : Bool) =>
  appK jt_10 t_9) (appK jt_10 false)) fun jt_6 => iteK t_2 (Option.bind (Go.Proofs.Ytlljmgphgmklcaa.GiIsZone.P zone) fun (t_5 : Bool) =>
  appK jt_6 t_5) (appK jt_6 false)

set_option maxRecDepth 100000 in
set_option maxHeartbeats 2000000 in
theorem C (list : (List Go.Proofs.Ytlljmgphgmklcaa.PRate.Rate)) (zone : Int) (grams : Int) (A0 : Option Addr) (c0 : Nat)  (w : World) (M0 : Hid (Cells w 5 A0 list.length (Go.Proofs.Ytlljmgphgmklcaa.PRate.flat list))) (N0 : Hid (list.length ≤ 9223372036854775807))  {r : Bool} (H : Hid (P list zone grams = some r)) :
    Calls Try.prog 124 #[.slice A0 list.length c0, .int .i64 zone, .int .i64 grams] w (Gives (.bool r) w) := by
  have HB := Lib.hid (Below.refl w.heap.size w)
  unfold P at H
  have N0o := N0.out
  go_enter Try.func124, Try.ntmps124
  replace H := bind_hid H
  obtain ⟨t_2, qt_2, H⟩ := H
  go_wp2_with fail
  go_at_call 67
  refine (Go.Proofs.Ytlljmgphgmklcaa.GiAreRates.C (list) A0 c0 _   (Lib.hid (Cells.below M0.out HB.out)) N0 qt_2).mono ?_
  rintro e_t_2 wt_2 ⟨rfl, bt_2⟩
  have HBwt_2 := Lib.hid (Below.step HB.out bt_2)
  clear bt_2
  replace H := join_hid H
  cases t_2 with
  | false =>
    replace H := ite_f H
    replace H := app_hid H
    replace H := join_hid H
    replace H := ite_f H
    replace H := app_hid H
    obtain rfl := ret_hid H
    go_wp2_with fail
    go_ret
    exact ⟨rfl, HBwt_2.out⟩
  | true =>
    replace H := ite_t H
    replace H := bind_hid H
    obtain ⟨t_5, qt_5, H⟩ := H
    go_wp2_with fail
    go_at_call 80
    refine (Go.Proofs.Ytlljmgphgmklcaa.GiIsZone.C (zone)  _    qt_5).mono ?_
    rintro e_t_5 wt_5 ⟨rfl, bt_5⟩
    have HBwt_5 := Lib.hid (Below.step HBwt_2.out bt_5)
    clear bt_5
    replace H := app_hid H
    replace H := join_hid H
    cases t_5 with
    | false =>
      replace H := ite_f H
      replace H := app_hid H
      obtain rfl := ret_hid H
      go_wp2_with fail
      go_ret
      exact ⟨rfl, HBwt_5.out⟩
    | true =>
      replace H := ite_t H
      replace H := bind_hid H
      obtain ⟨t_9, qt_9, H⟩ := H
      go_wp2_with fail
      go_at_call 81
      refine (Go.Proofs.Ytlljmgphgmklcaa.GiIsWeight.C (grams)  _    qt_9).mono ?_
      rintro e_t_9 wt_9 ⟨rfl, bt_9⟩
      have HBwt_9 := Lib.hid (Below.step HBwt_5.out bt_9)
      clear bt_9
      replace H := app_hid H
      obtain rfl := ret_hid H
      go_wp2_with fail
      go_ret
      exact ⟨rfl, HBwt_9.out⟩
end Go.Proofs.Ytlljmgphgmklcaa.GiCanSend

/- Chapter 8: rates: the plain functions of the program and of the reference agree, and the laws answer true. (Q8For) No condition but those of each theorem. -/
namespace Go.Proofs.Ytlljmgphgmklcaa.Q8For
set_option linter.unusedVariables false
set_option linter.unusedSimpArgs false
open Go.RowKit
open Go.Proofs.Ytlljmgphgmklcaa.GoP Go.Proofs.Ytlljmgphgmklcaa.PlainStamp Go.Proofs.Ytlljmgphgmklcaa.QBase Go.Proofs.Ytlljmgphgmklcaa.QFold Go.Proofs.Ytlljmgphgmklcaa.QRiseL Go.Proofs.Ytlljmgphgmklcaa.QOrd Go.Proofs.Ytlljmgphgmklcaa.Q8List Go.Proofs.Ytlljmgphgmklcaa.Q8Rate Go.Proofs.Ytlljmgphgmklcaa.QLoop Go.Proofs.Ytlljmgphgmklcaa.PRate

def onB (day zone grams : Int) (r : Rate) : Bool := decide (r.zone = zone) && decide (grams ≤ r.grams) && inB day r.from_ r.until_
def rateV (l : List Rate) (day zone grams : Int) : Int := match l.find? (onB day zone grams) with | some r => r.cents | none => 0
theorem rateOn_eq (l : List Rate) (day zone grams : Int) : GiRateOn.P l day zone grams = some (rateV l day zone grams) := by
  simp only [GiRateOn.P]
  rw [find_val (p := onB day zone grams) (yes := fun x => some x.cents)]
  · unfold rateV; cases l.find? (onB day zone grams) <;> rfl
  · intro k nx x hx
    have hi : idx l (k : Int) = some x := by rw [idx_nat, hx]
    simp only [GiRateOn.l0, hi, Option.bind_some, unRate, within_eq, letK, joinK, appK, iteK_if, onB]
    by_cases h1 : x.zone = zone <;> by_cases h2 : grams ≤ x.grams <;> simp [h1, h2]
theorem l8For_eq (l : List Rate) (day zone grams : Int) : GsL8For.P l day zone grams = some (rateV l day zone grams) := by
  simp only [GsL8For.P]
  rw [find_val (p := onB day zone grams) (yes := fun x => some x.cents)]
  · unfold rateV; cases l.find? (onB day zone grams) <;> rfl
  · intro k nx x hx
    have hi : idx l (k : Int) = some x := by rw [idx_nat, hx]
    simp only [GsL8For.l0, hi, Option.bind_some, unRate, l1In_eq, letK, joinK, appK, iteK_if, onB]
    by_cases h1 : x.zone = zone <;> by_cases h2 : grams ≤ x.grams <;> simp [h1, h2]
theorem rateV_nonneg {l : List Rate} (h : okRs l = true) (day zone grams : Int) : 0 ≤ rateV l day zone grams := by
  unfold rateV
  cases hf : l.find? (onB day zone grams) with
  | none => exact Int.le_refl _
  | some r => have := okR_of (rs_mem h (List.mem_of_find?_eq_some hf)); dsimp only; omega
theorem canSend_eq (l : List Rate) (zone grams : Int) (hl : l.length ≤ 9223372036854775807) : GiCanSend.P l zone grams = some (okRs l && inB zone 0 9 && inB grams 1 2000) := by
  simp only [GiCanSend.P, areRates_eq l hl, isZone_eq, isWeight_eq, Option.bind_some, joinK, appK, iteK_if]
  cases okRs l <;> cases inB zone 0 9 <;> simp
end Go.Proofs.Ytlljmgphgmklcaa.Q8For

/- Chapter 9: mails and routes: the plain functions of the program and of the reference agree, and the laws answer true. (QFoldS) No condition but those of each theorem. -/
namespace Go.Proofs.Ytlljmgphgmklcaa.QFoldS
set_option linter.unusedVariables false
set_option linter.unusedSimpArgs false
open Go.RowKit
open Go.Proofs.Ytlljmgphgmklcaa.GoP Go.Proofs.Ytlljmgphgmklcaa.PlainStamp Go.Proofs.Ytlljmgphgmklcaa.QBase Go.Proofs.Ytlljmgphgmklcaa.QLoop

/-- a counted loop that carries a state through a list -/
theorem fold_cnt {α σ ρ : Type} {l : List α} {g : σ → α → σ} {J : σ → Prop} {f : Nat → σ → (σ → Option ρ) → (σ → Option ρ) → Option ρ} {fin : σ → Option ρ}
    (step : ∀ k x s nx, l[k]? = some x → J s → f k s nx fin = nx (g s x) ∧ J (g s x)) {s : σ} (hs : J s) : cntK f l.length 0 s fin = fin (l.foldl g s) := by
  have key : ∀ m k s, k + m = l.length → J s → cntK f m k s fin = fin ((l.drop k).foldl g s) := by
    intro m
    induction m with
    | zero => intro k s hk _; rw [List.drop_eq_nil_of_le (by omega)]; rfl
    | succ m ih =>
      intro k s hk hJ
      have hlt : k < l.length := by omega
      have hx : l[k]? = some l[k] := List.getElem?_eq_getElem hlt
      obtain ⟨h1, h2⟩ := step k l[k] s (fun s' => cntK f m (k + 1) s' fin) hx hJ
      show f k s _ fin = _
      rw [h1, ih (k + 1) _ (by omega) h2, List.drop_eq_getElem_cons hlt, List.foldl_cons]
  exact key l.length 0 s (by omega) hs
theorem range_at {n k x : Nat} (h : (List.range n)[k]? = some x) : k < n ∧ k = x := by
  have h1 := (List.getElem?_eq_some_iff.1 h).1
  rw [List.length_range] at h1
  rw [List.getElem?_range h1] at h
  exact ⟨h1, by simpa using h⟩
end Go.Proofs.Ytlljmgphgmklcaa.QFoldS

/- Chapter 9: mails and routes: the plain functions of the program and of the reference agree, and the laws answer true. (Q9Arr) No condition but those of each theorem. -/
namespace Go.Proofs.Ytlljmgphgmklcaa.Q9Arr
set_option linter.unusedVariables false
set_option linter.unusedSimpArgs false
open Go.RowKit
open Go.Proofs.Ytlljmgphgmklcaa.GoP Go.Proofs.Ytlljmgphgmklcaa.PlainStamp Go.Proofs.Ytlljmgphgmklcaa.QBase Go.Proofs.Ytlljmgphgmklcaa.QLoop Go.Proofs.Ytlljmgphgmklcaa.PIntA10 Go.Proofs.Ytlljmgphgmklcaa.GoA

/-- the number of an office in a row of ten -/
def at_ (s : List Int) (i : Int) : Int := s.getD i.toNat 0
theorem idx_at {s : List Int} {i : Int} (hs : s.length = 10) (hi : 0 ≤ i ∧ i ≤ 9) : idx s i = some (at_ s i) := by
  unfold idx at_
  rw [if_pos hi.1, List.getD_eq_getElem?_getD, List.getElem?_eq_getElem (by omega)]; rfl
theorem at_set {s : List Int} {i j : Int} (hs : s.length = 10) (hi : 0 ≤ i ∧ i ≤ 9) (hj : 0 ≤ j ∧ j ≤ 9) (v : Int) : at_ (s.set i.toNat v) j = if j = i then v else at_ s j := by
  unfold at_
  rw [List.getD_eq_getElem?_getD, List.getD_eq_getElem?_getD]
  by_cases h : j = i
  · subst h; rw [if_pos rfl, List.getElem?_set_self (by omega)]; rfl
  · rw [if_neg h, List.getElem?_set_ne (by omega)]
theorem at_rep {v i : Int} (hi : 0 ≤ i ∧ i ≤ 9) : at_ (List.replicate 10 v) i = v := by
  unfold at_
  rw [List.getD_eq_getElem?_getD, List.getElem?_replicate, if_pos (by omega)]; rfl
def toA (s : List Int) : IntA10 := IntA10.mk (nth s 0) (nth s 1) (nth s 2) (nth s 3) (nth s 4) (nth s 5) (nth s 6) (nth s 7) (nth s 8) (nth s 9)
theorem ten {s : List Int} (hs : s.length = 10) : [(toA s).x0, (toA s).x1, (toA s).x2, (toA s).x3, (toA s).x4, (toA s).x5, (toA s).x6, (toA s).x7, (toA s).x8, (toA s).x9] = s := by
  match s, hs with
  | [a, b, c, d, e, f, g, h, i, j], _ => rfl
theorem filled_eq (v : Int) : GiFilledWith.P v = some (toA (List.replicate 10 v)) := rfl
theorem un_eq {ρ : Type} (s : IntA10) (f : Int → Int → Int → Int → Int → Int → Int → Int → Int → Int → Option ρ) : unIntA10 s f = f s.x0 s.x1 s.x2 s.x3 s.x4 s.x5 s.x6 s.x7 s.x8 s.x9 := rfl
end Go.Proofs.Ytlljmgphgmklcaa.Q9Arr

/- Chapter 9: mails and routes: the plain functions of the program and of the reference agree, and the laws answer true. (QRiseV) No condition but those of each theorem. -/
namespace Go.Proofs.Ytlljmgphgmklcaa.QRiseV
set_option linter.unusedVariables false
set_option linter.unusedSimpArgs false
open Go.RowKit
open Go.Proofs.Ytlljmgphgmklcaa.GoP Go.Proofs.Ytlljmgphgmklcaa.PlainStamp Go.Proofs.Ytlljmgphgmklcaa.QBase Go.Proofs.Ytlljmgphgmklcaa.QOrd Go.Proofs.Ytlljmgphgmklcaa.QLoop

/-- as rise_loop, with what is known of the one ahead -/
theorem rise_loopV {α : Type} {ok : α → Bool} {lt : α → α → Bool} {l : List α} {R : Type} {no : R} {f : Nat → Unit → (Unit → Option R) → (Unit → Option R) → Option R} {fin : Unit → Option R}
    (step : ∀ k nx s, l[k]? = some s → (ok s = false → f k () nx fin = some no) ∧ (ok s = true → (k = 0 → f k () nx fin = nx ()) ∧ (0 < k → ∀ r, l[k-1]? = some r → ok r = true → (lt r s = true → f k () nx fin = nx ()) ∧ (lt r s = false → f k () nx fin = some no)))) :
    cntK f l.length 0 () fin = if riseTo ok lt l l.length then fin () else some no := by
  have key : ∀ m k, k + m = l.length → riseTo ok lt l k = true → cntK f m k () fin = if riseTo ok lt l l.length then fin () else some no := by
    intro m
    induction m with
    | zero => intro k hk hu; obtain rfl : k = l.length := by omega
              rw [hu]; rfl
    | succ m ih =>
      intro k hk hu
      have hlt : k < l.length := by omega
      obtain ⟨s, hs, _⟩ := at_lt hlt
      obtain ⟨h1, h2⟩ := step k (fun s' => cntK f m (k + 1) s' fin) s hs
      show f k () _ fin = _
      cases hok : ok s with
      | false => rw [h1 hok, riseTo_not (riseAt_bad hs hok) hlt]; rfl
      | true =>
        obtain ⟨h3, h4⟩ := h2 hok
        by_cases hk0 : k = 0
        · rw [h3 hk0]
          subst hk0
          exact ih 1 (by omega) (by rw [riseTo_succ, hu, riseAt_first hs hok]; rfl)
        · obtain ⟨r, hr, _⟩ := at_lt (l := l) (k := k - 1) (by omega)
          have hokr : ok r = true := by
            have := riseTo_at hu (k := k - 1) (by omega)
            unfold riseAt at this; rw [hr] at this
            simp only [Bool.and_eq_true] at this; exact this.1
          obtain ⟨h5, h6⟩ := h4 (by omega) r hr hokr
          cases hl : lt r s with
          | true =>
            rw [h5 hl]
            exact ih (k + 1) (by omega) (by rw [riseTo_succ, hu, riseAt_next hs hr (by omega) hok, hl]; rfl)
          | false => rw [h6 hl, riseTo_not (by rw [riseAt_next hs hr (by omega) hok, hl]) hlt]; rfl
  exact key l.length 0 (by omega) (riseTo_zero ok lt l)
end Go.Proofs.Ytlljmgphgmklcaa.QRiseV

/- Chapter 9: mails and routes: the plain functions of the program and of the reference agree, and the laws answer true. (Q9List) No condition but those of each theorem. -/
namespace Go.Proofs.Ytlljmgphgmklcaa.Q9List
set_option linter.unusedVariables false
set_option linter.unusedSimpArgs false
open Go.RowKit
open Go.Proofs.Ytlljmgphgmklcaa.GoP Go.Proofs.Ytlljmgphgmklcaa.PlainStamp Go.Proofs.Ytlljmgphgmklcaa.QBase Go.Proofs.Ytlljmgphgmklcaa.QRiseV Go.Proofs.Ytlljmgphgmklcaa.QRiseL Go.Proofs.Ytlljmgphgmklcaa.QOrd Go.Proofs.Ytlljmgphgmklcaa.Q9Mail Go.Proofs.Ytlljmgphgmklcaa.QLoop Go.Proofs.Ytlljmgphgmklcaa.PMail

def goodM (l : List Mail) : Bool := riseL 20 okM ltM l
theorem isTime_eq (l : List Mail) (hl : l.length ≤ 9223372036854775807) : GiIsTimetable.P l = some (goodM l) := by
  simp only [GiIsTimetable.P, letK, iteK_if]
  by_cases h12 : l.length ≤ 20
  · rw [if_neg (by simp; omega), rise_loopV (ok := okM) (lt := ltM) (no := false)]
    · unfold goodM riseL; cases riseTo okM ltM l l.length <;> simp [h12, GiIsTimetable.e0]
    · intro k nx s hs
      have hi : idx l (k : Int) = some s := by rw [idx_nat, hs]
      have hk : k < l.length := (List.getElem?_eq_some_iff.1 hs).1
      simp only [GiIsTimetable.l0, hi, Option.bind_some, unMail, isMail_eq, letK, joinK, appK, iteK_if]
      refine ⟨fun h => by simp [h], fun h => ⟨fun h0 => by subst h0; simp [h], fun h0 r hr hokr => ?_⟩⟩
      rw [idx_pred h0 (by omega) hr]
      have hk0 : (0 : Int) < (k : Int) := by omega
      have hk1 : ¬ k = 0 := by omega
      obtain ⟨c, hc, hcc⟩ := compare_eq hokr h
      have he : ∀ x : Mail, Mail.mk x.leave x.from_ x.to_ x.arrive = x := fun x => rfl
      simp only [Option.bind_some, he, hc, h, ltM]
      exact ⟨fun hlt => by
        have : ¬ 0 ≤ c := by rw [hcc]; have := of_decide_eq_true hlt; omega
        simp [hk0, hk1, this], fun hge => by
        have : 0 ≤ c := by rw [hcc]; have := of_decide_eq_false hge; omega
        simp [hk0, hk1, this]⟩
  · rw [if_pos (by simp; omega)]; unfold goodM riseL; simp [h12]
theorem l9Good_eq (l : List Mail) (hl : l.length ≤ 9223372036854775807) : GsL9Good.P l = some (goodM l) := by
  simp only [GsL9Good.P]
  rw [rise_loopV (ok := okM) (lt := ltM) (no := false)]
  · unfold goodM riseL; simp only [GsL9Good.e0, letK]
    by_cases h12 : l.length ≤ 20
    · have : (l.length : Int) ≤ 20 := by omega
      cases riseTo okM ltM l l.length <;> simp [h12, this]
    · have : ¬ (l.length : Int) ≤ 20 := by omega
      cases riseTo okM ltM l l.length <;> simp [h12, this]
  · intro k nx s hs
    have hi : idx l (k : Int) = some s := by rw [idx_nat, hs]
    have hk : k < l.length := (List.getElem?_eq_some_iff.1 hs).1
    simp only [GsL9Good.l0, hi, Option.bind_some, unMail, l9One_eq, letK, joinK, appK, iteK_if]
    refine ⟨fun h => by simp [h], fun h => ⟨fun h0 => by subst h0; simp [h], fun h0 r hr hokr => ?_⟩⟩
    rw [idx_pred h0 (by omega) hr]
    have hk0 : (0 : Int) < (k : Int) := by omega
    have hk1 : ¬ k = 0 := by omega
    have he : ∀ x : Mail, Mail.mk x.leave x.from_ x.to_ x.arrive = x := fun x => rfl
    simp only [Option.bind_some, he, code_eq hokr, code_eq h, h, ltM]
    exact ⟨fun hlt => by
      have : ¬ codeM s ≤ codeM r := by have := of_decide_eq_true hlt; omega
      simp [hk0, hk1, this], fun hge => by
      have : codeM s ≤ codeM r := by have := of_decide_eq_false hge; omega
      simp [hk0, hk1, this]⟩
def askM (l : List Mail) (o m : Int) : Bool := goodM l && inB o 0 9 && inB m 0 9999
theorem canBegin_eq (l : List Mail) (hl : l.length ≤ 9223372036854775807) (o m : Int) : GiCanBegin.P l o m = some (askM l o m) := by
  simp only [GiCanBegin.P, isTime_eq l hl, isOffice_eq, isMinute_eq, Option.bind_some, joinK, appK, iteK_if, askM]
  cases goodM l <;> cases inB o 0 9 <;> simp
theorem l9Asked_eq (l : List Mail) (hl : l.length ≤ 9223372036854775807) (o m : Int) : GsL9Asked.P l o m = some (askM l o m) := by
  simp only [GsL9Asked.P, l9Good_eq l hl, l9Office_eq, l9Minute_eq, Option.bind_some, joinK, appK, iteK_if, askM]
  cases goodM l <;> cases inB o 0 9 <;> simp
theorem m_ok {l : List Mail} (h : goodM l = true) {k : Nat} {x : Mail} (hx : l[k]? = some x) : okM x = true := riseL_ok h hx
theorem m_mem {l : List Mail} (h : goodM l = true) {x : Mail} (hx : x ∈ l) : okM x = true := riseL_mem h hx
theorem m_len {l : List Mail} (h : goodM l = true) : l.length ≤ 20 := riseL_len h
theorem m_leave {l : List Mail} (h : goodM l = true) {i j : Nat} {x y : Mail} (hij : i < j) (hx : l[i]? = some x) (hy : l[j]? = some y) : x.leave ≤ y.leave := by
  have := riseL_rel (fun a b => a.leave ≤ b.leave) (fun a b ha hb hlt => by
    have h1 := okM_of ha
    have h2 := okM_of hb
    have h3 := of_decide_eq_true hlt
    unfold codeM at h3
    omega) (fun a b c h1 h2 => Int.le_trans h1 h2) h hij hx hy
  exact this
theorem ask_of {l : List Mail} {o m : Int} (h : askM l o m = true) : goodM l = true ∧ (0 ≤ o ∧ o ≤ 9) ∧ (0 ≤ m ∧ m ≤ 9999) := by
  unfold askM at h
  simp only [Bool.and_eq_true] at h
  exact ⟨h.1.1, inB_of h.1.2, inB_of h.2⟩
end Go.Proofs.Ytlljmgphgmklcaa.Q9List

/- Chapter 9: mails and routes: the plain functions of the program and of the reference agree, and the laws answer true. (Q9Dual) No condition but those of each theorem. -/
namespace Go.Proofs.Ytlljmgphgmklcaa.Q9Dual
set_option linter.unusedVariables false
set_option linter.unusedSimpArgs false
open Go.RowKit
open Go.Proofs.Ytlljmgphgmklcaa.GoP Go.Proofs.Ytlljmgphgmklcaa.PlainStamp Go.Proofs.Ytlljmgphgmklcaa.QBase Go.Proofs.Ytlljmgphgmklcaa.Q9Arr Go.Proofs.Ytlljmgphgmklcaa.Q9List Go.Proofs.Ytlljmgphgmklcaa.Q9Mail Go.Proofs.Ytlljmgphgmklcaa.QLoop Go.Proofs.Ytlljmgphgmklcaa.PMail Go.Proofs.Ytlljmgphgmklcaa.PIntA10

/-- a mail that can be reached takes its minute on -/
def stepE (s : List Int) (x : Mail) : List Int := if at_ s x.from_ ≤ x.leave then s.set x.to_.toNat (min (at_ s x.to_) x.arrive) else s
def startE (o m : Int) : List Int := (List.replicate 10 10000).set o.toNat m
def earlyM (l : List Mail) (o m : Int) : List Int := l.foldl stepE (startE o m)
/-- a mail from whose end one still comes in time tells the minute at which it leaves -/
def stepL (x : Mail) (t : List Int) : List Int := if x.arrive ≤ at_ t x.to_ then t.set x.from_.toNat (max (at_ t x.from_) x.leave) else t
def startL (o m : Int) : List Int := (List.replicate 10 (-1)).set o.toNat m
def lateM (l : List Mail) (o m : Int) : List Int := l.foldr stepL (startL o m)
theorem stepE_len {s : List Int} {x : Mail} : (stepE s x).length = s.length := by unfold stepE; split <;> simp
theorem stepL_len {s : List Int} {x : Mail} : (stepL x s).length = s.length := by unfold stepL; split <;> simp
theorem foldE_len (l : List Mail) : ∀ {s : List Int}, (l.foldl stepE s).length = s.length := by
  induction l with
  | nil => intro s; rfl
  | cons x l ih => intro s; rw [List.foldl_cons, ih, stepE_len]
theorem foldL_len (l : List Mail) {t : List Int} : (l.foldr stepL t).length = t.length := by
  induction l with
  | nil => rfl
  | cons x l ih => rw [List.foldr_cons, stepL_len, ih]
theorem startE_len (o m : Int) : (startE o m).length = 10 := by simp [startE]
theorem startL_len (o m : Int) : (startL o m).length = 10 := by simp [startL]
theorem early_len (l : List Mail) (o m : Int) : (earlyM l o m).length = 10 := by unfold earlyM; rw [foldE_len, startE_len]
theorem late_len (l : List Mail) (o m : Int) : (lateM l o m).length = 10 := by unfold lateM; rw [foldL_len, startL_len]
theorem startE_at {o m i : Int} (ho : 0 ≤ o ∧ o ≤ 9) (hi : 0 ≤ i ∧ i ≤ 9) : at_ (startE o m) i = if i = o then m else 10000 := by
  unfold startE; rw [at_set (by simp) ho hi, at_rep hi]
theorem startL_at {o m i : Int} (ho : 0 ≤ o ∧ o ≤ 9) (hi : 0 ≤ i ∧ i ≤ 9) : at_ (startL o m) i = if i = o then m else -1 := by
  unfold startL; rw [at_set (by simp) ho hi, at_rep hi]
theorem stepE_at {s : List Int} {x : Mail} {i : Int} (hs : s.length = 10) (hx : okM x = true) (hi : 0 ≤ i ∧ i ≤ 9) : at_ (stepE s x) i = if at_ s x.from_ ≤ x.leave ∧ i = x.to_ then min (at_ s i) x.arrive else at_ s i := by
  unfold stepE
  by_cases h : at_ s x.from_ ≤ x.leave
  · rw [if_pos h, at_set hs (okM_of hx).2.1 hi]
    by_cases e : i = x.to_
    · rw [if_pos e, if_pos ⟨h, e⟩, e]
    · rw [if_neg e, if_neg (fun q => e q.2)]
  · rw [if_neg h, if_neg (fun q => h q.1)]
theorem stepL_at {t : List Int} {x : Mail} {i : Int} (hs : t.length = 10) (hx : okM x = true) (hi : 0 ≤ i ∧ i ≤ 9) : at_ (stepL x t) i = if x.arrive ≤ at_ t x.to_ ∧ i = x.from_ then max (at_ t i) x.leave else at_ t i := by
  unfold stepL
  by_cases h : x.arrive ≤ at_ t x.to_
  · rw [if_pos h, at_set hs (okM_of hx).1 hi]
    by_cases e : i = x.from_
    · rw [if_pos e, if_pos ⟨h, e⟩, e]
    · rw [if_neg e, if_neg (fun q => e q.2)]
  · rw [if_neg h, if_neg (fun q => h q.1)]
/-- at some office one is not later than one may be -/
def meets (s t : List Int) : Prop := ∃ i, (0 ≤ i ∧ i ≤ 9) ∧ at_ s i ≤ at_ t i
theorem meets_step {s t : List Int} {x : Mail} (hs : s.length = 10) (ht : t.length = 10) (hx : okM x = true) : meets (stepE s x) t ↔ meets s (stepL x t) := by
  have hm := okM_of hx
  constructor
  · rintro ⟨i, hi, h⟩
    rw [stepE_at hs hx hi] at h
    split at h
    · rename_i hc
      by_cases h1 : at_ s i ≤ at_ t i
      · refine ⟨i, hi, ?_⟩; rw [stepL_at ht hx hi]; split <;> omega
      · refine ⟨x.from_, hm.1, ?_⟩
        rw [stepL_at ht hx hm.1, if_pos ⟨by rw [← hc.2]; omega, rfl⟩]
        have := hc.1; omega
    · refine ⟨i, hi, ?_⟩; rw [stepL_at ht hx hi]; split <;> omega
  · rintro ⟨i, hi, h⟩
    rw [stepL_at ht hx hi] at h
    split at h
    · rename_i hc
      by_cases h1 : at_ s i ≤ at_ t i
      · refine ⟨i, hi, ?_⟩; rw [stepE_at hs hx hi]; split <;> omega
      · refine ⟨x.to_, hm.2.1, ?_⟩
        rw [stepE_at hs hx hm.2.1, if_pos ⟨by rw [← hc.2]; omega, rfl⟩]
        have := hc.1; omega
    · refine ⟨i, hi, ?_⟩; rw [stepE_at hs hx hi]; split <;> omega
theorem meets_all (l : List Mail) (hl : ∀ x ∈ l, okM x = true) : ∀ {s t : List Int}, s.length = 10 → t.length = 10 → (meets (l.foldl stepE s) t ↔ meets s (l.foldr stepL t)) := by
  induction l with
  | nil => intro s t _ _; exact Iff.rfl
  | cons x l ih =>
    intro s t hs ht
    rw [List.foldl_cons, List.foldr_cons, ih (fun y hy => hl y (List.mem_cons_of_mem _ hy)) (by rw [stepE_len, hs]) ht]
    exact meets_step hs (by rw [foldL_len, ht]) (hl x (List.mem_cons_self ..))
/-- no minute falls below the first, and none rises -/
theorem foldE_low (l : List Mail) (hl : ∀ x ∈ l, okM x = true) {m : Int} : ∀ {s : List Int}, s.length = 10 → (∀ i, 0 ≤ i ∧ i ≤ 9 → m ≤ at_ s i) → ∀ i, 0 ≤ i ∧ i ≤ 9 → m ≤ at_ (l.foldl stepE s) i := by
  induction l with
  | nil => intro s _ h; exact h
  | cons x l ih =>
    intro s hs h
    rw [List.foldl_cons]
    refine ih (fun y hy => hl y (List.mem_cons_of_mem _ hy)) (by rw [stepE_len, hs]) (fun i hi => ?_)
    have hx := hl x (List.mem_cons_self ..)
    have hm := okM_of hx
    rw [stepE_at hs hx hi]
    have h1 := h i hi
    have h2 := h x.from_ hm.1
    split <;> omega
theorem foldE_up (l : List Mail) (hl : ∀ x ∈ l, okM x = true) {i : Int} (hi : 0 ≤ i ∧ i ≤ 9) : ∀ {s : List Int}, s.length = 10 → at_ (l.foldl stepE s) i ≤ at_ s i := by
  induction l with
  | nil => intro s _; exact Int.le_refl _
  | cons x l ih =>
    intro s hs
    rw [List.foldl_cons]
    refine Int.le_trans (ih (fun y hy => hl y (List.mem_cons_of_mem _ hy)) (by rw [stepE_len, hs])) ?_
    rw [stepE_at hs (hl x (List.mem_cons_self ..)) hi]
    split <;> omega
theorem foldL_up (l : List Mail) (hl : ∀ x ∈ l, okM x = true) {i : Int} (hi : 0 ≤ i ∧ i ≤ 9) {t : List Int} (ht : t.length = 10) : at_ t i ≤ at_ (l.foldr stepL t) i := by
  induction l with
  | nil => exact Int.le_refl _
  | cons x l ih =>
    rw [List.foldr_cons, stepL_at (by rw [foldL_len, ht]) (hl x (List.mem_cons_self ..)) hi]
    have := ih (fun y hy => hl y (List.mem_cons_of_mem _ hy))
    split <;> omega
theorem foldL_top (l : List Mail) (hl : ∀ x ∈ l, okM x = true) {B : Int} (hB : ∀ x ∈ l, x.leave ≤ B) {i : Int} (hi : 0 ≤ i ∧ i ≤ 9) {t : List Int} (ht : t.length = 10) : at_ (l.foldr stepL t) i ≤ max (at_ t i) B := by
  induction l with
  | nil => simp only [List.foldr_nil]; omega
  | cons x l ih =>
    rw [List.foldr_cons, stepL_at (by rw [foldL_len, ht]) (hl x (List.mem_cons_self ..)) hi]
    have h1 := ih (fun y hy => hl y (List.mem_cons_of_mem _ hy)) (fun y hy => hB y (List.mem_cons_of_mem _ hy))
    have h2 := hB x (List.mem_cons_self ..)
    split <;> omega
theorem early_low {l : List Mail} (hg : goodM l = true) {o m i : Int} (ho : 0 ≤ o ∧ o ≤ 9) (hm : m ≤ 9999) (hi : 0 ≤ i ∧ i ≤ 9) : m ≤ at_ (earlyM l o m) i :=
  foldE_low l (fun x hx => m_mem hg hx) (startE_len o m) (fun j hj => by rw [startE_at ho hj]; split <;> omega) i hi
theorem early_up {l : List Mail} (hg : goodM l = true) {o m i : Int} (ho : 0 ≤ o ∧ o ≤ 9) (hi : 0 ≤ i ∧ i ≤ 9) : at_ (earlyM l o m) i ≤ if i = o then m else 10000 := by
  have := foldE_up l (fun x hx => m_mem hg hx) hi (startE_len o m)
  rw [startE_at ho hi] at this; exact this
theorem early_top {l : List Mail} (hg : goodM l = true) {o m i : Int} (ho : 0 ≤ o ∧ o ≤ 9) (hm : m ≤ 9999) (hi : 0 ≤ i ∧ i ≤ 9) : at_ (earlyM l o m) i ≤ 10000 := by
  have := early_up hg (m := m) ho hi
  split at this <;> omega
theorem late_top {l : List Mail} (hg : goodM l = true) {o m i : Int} (ho : 0 ≤ o ∧ o ≤ 9) (hm : m ≤ 9999) (hi : 0 ≤ i ∧ i ≤ 9) : at_ (lateM l o m) i ≤ 9999 := by
  have := foldL_top l (fun x hx => m_mem hg hx) (B := 9999) (fun x hx => by have := okM_of (m_mem hg hx); omega) hi (startL_len o m)
  rw [startL_at ho hi] at this
  unfold lateM; split at this <;> omega
/-- one comes in time exactly if one is not later than the latest minute -/
theorem dual {l : List Mail} (hg : goodM l = true) {o m p b : Int} (ho : 0 ≤ o ∧ o ≤ 9) (hp : 0 ≤ p ∧ p ≤ 9) (hm : 0 ≤ m ∧ m ≤ 9999) (hb : b ≤ 9999) : at_ (earlyM l o m) p ≤ b ↔ m ≤ at_ (lateM l p b) o := by
  have h := meets_all l (fun x hx => m_mem hg hx) (startE_len o m) (startL_len p b)
  constructor
  · intro h1
    obtain ⟨i, hi, h2⟩ := h.1 ⟨p, hp, by rw [startL_at hp hp, if_pos rfl]; exact h1⟩
    rw [startE_at ho hi] at h2
    split at h2
    · rename_i e; rw [e] at h2; exact h2
    · have := late_top hg hp hb hi
      unfold lateM at this; omega
  · intro h1
    obtain ⟨i, hi, h2⟩ := h.2 ⟨o, ho, by rw [startE_at ho ho, if_pos rfl]; exact h1⟩
    rw [startL_at hp hi] at h2
    split at h2
    · rename_i e; rw [e] at h2; exact h2
    · have := early_low hg ho hm.2 hi
      unfold earlyM at this; omega
end Go.Proofs.Ytlljmgphgmklcaa.Q9Dual

/- Chapter 9: mails and routes: the plain functions of the program and of the reference agree, and the laws answer true. (Q9Early) No condition but those of each theorem. -/
namespace Go.Proofs.Ytlljmgphgmklcaa.Q9Early
set_option linter.unusedVariables false
set_option linter.unusedSimpArgs false
open Go.RowKit
open Go.Proofs.Ytlljmgphgmklcaa.GoP Go.Proofs.Ytlljmgphgmklcaa.PlainStamp Go.Proofs.Ytlljmgphgmklcaa.QBase Go.Proofs.Ytlljmgphgmklcaa.QFoldS Go.Proofs.Ytlljmgphgmklcaa.Q9Dual Go.Proofs.Ytlljmgphgmklcaa.Q9Arr Go.Proofs.Ytlljmgphgmklcaa.Q9List Go.Proofs.Ytlljmgphgmklcaa.Q9Mail Go.Proofs.Ytlljmgphgmklcaa.QLoop Go.Proofs.Ytlljmgphgmklcaa.PMail Go.Proofs.Ytlljmgphgmklcaa.PIntA10 Go.Proofs.Ytlljmgphgmklcaa.GoA

theorem least_eq (a b : Int) : GsL1Least.P a b = some (min a b) := by
  simp only [GsL1Least.P, letK, iteK_if]
  by_cases h : a < b
  · rw [if_pos (by simpa using h)]; congr 1; omega
  · rw [if_neg (by simpa using h)]; congr 1; omega
theorem earliest_eq {l : List Mail} (hg : goodM l = true) {o : Int} (ho : 0 ≤ o ∧ o ≤ 9) (m : Int) : GiEarliestMinutes.P l o m = some (toA (earlyM l o m)) := by
  simp only [GiEarliestMinutes.P, filled_eq, Option.bind_some, un_eq, letK]
  rw [ten (by simp), idx_at (by simp) ho, Option.bind_some, fold_cnt (g := stepE) (J := fun s => s.length = 10)]
  · rfl
  · intro k x s nx hx hs
    have hk : idx l (k : Int) = some x := by rw [idx_nat, hx]
    have hm := okM_of (m_ok hg hx)
    obtain ⟨a, b, c, d⟩ := x
    dsimp only at hm
    refine ⟨?_, by rw [stepE_len, hs]⟩
    simp only [GiEarliestMinutes.l0, letK, hk, Option.bind_some, unMail, idx_at hs hm.1, iteK_if, stepE]
    by_cases h : at_ s b ≤ a
    · simp [h, idx_at hs hm.2.1, appK]
    · simp [h, appK]
  · simp
theorem times_eq {l : List Mail} (hg : goodM l = true) {o : Int} (ho : 0 ≤ o ∧ o ≤ 9) (m : Int) : GsL9Times.P l o m = some (earlyM l o m) := by
  simp only [GsL9Times.P, letK]
  rw [guardK_pos (by omega)]
  have h10 : cntK GsL9Times.l0 (List.replicate 10 (0 : Int)).length 0 (List.replicate 10 (0 : Int)) (GsL9Times.e0 l o m) = GsL9Times.e0 l o m (List.replicate 10 10000) := rfl
  rw [h10]
  simp only [GsL9Times.e0, letK]
  rw [idx_at (by simp) ho, Option.bind_some, fold_cnt (g := stepE) (J := fun s => s.length = 10)]
  · rfl
  · intro k x s nx hx hs
    have hk : idx l (k : Int) = some x := by rw [idx_nat, hx]
    have hm := okM_of (m_ok hg hx)
    obtain ⟨a, b, c, d⟩ := x
    dsimp only at hm
    refine ⟨?_, by rw [stepE_len, hs]⟩
    simp only [GsL9Times.l1, letK, hk, Option.bind_some, unMail, idx_at hs hm.1, iteK_if, stepE]
    by_cases h : at_ s b ≤ a
    · simp [h, idx_at hs hm.2.1, appK, least_eq]
    · simp [h, appK]
  · simp
end Go.Proofs.Ytlljmgphgmklcaa.Q9Early

/- loop.example/g01062/impl.canCheckCovers as a plain function, and the contract of the program's: where the plain one has an answer, the program has it. Conditions: slices read as lists. -/
namespace Go.Proofs.Ytlljmgphgmklcaa.GiCanCheckCovers
set_option linter.unusedVariables false
set_option linter.unusedSimpArgs false
open Go.RowKit
open Go.Proofs.Ytlljmgphgmklcaa.Rowed Go.Proofs.Ytlljmgphgmklcaa.Turn Go.Proofs.Ytlljmgphgmklcaa.Aid Go.Proofs.Ytlljmgphgmklcaa.GoP Go.Proofs.Ytlljmgphgmklcaa.GoM

def P (rates : (List Go.Proofs.Ytlljmgphgmklcaa.PRate.Rate)) (mails : (List Go.Proofs.Ytlljmgphgmklcaa.PMail.Mail)) : Option (Bool) :=
  Option.bind (Go.Proofs.Ytlljmgphgmklcaa.GiAreRates.P rates) fun (t_2 : Bool) =>
  joinK (fun (t_6 : Bool) =>
  some t_6) fun jt_6 => iteK t_2 (Option.bind (Go.Proofs.Ytlljmgphgmklcaa.GiIsTimetable.P mails) fun (t_5 : Bool) =>
  appK jt_6 t_5) (appK jt_6 false)

set_option maxRecDepth 100000 in
set_option maxHeartbeats 2000000 in
theorem C (rates : (List Go.Proofs.Ytlljmgphgmklcaa.PRate.Rate)) (mails : (List Go.Proofs.Ytlljmgphgmklcaa.PMail.Mail)) (A0 : Option Addr) (c0 : Nat) (A1 : Option Addr) (c1 : Nat)  (w : World) (M0 : Hid (Cells w 5 A0 rates.length (Go.Proofs.Ytlljmgphgmklcaa.PRate.flat rates))) (N0 : Hid (rates.length ≤ 9223372036854775807)) (M1 : Hid (Cells w 4 A1 mails.length (Go.Proofs.Ytlljmgphgmklcaa.PMail.flat mails))) (N1 : Hid (mails.length ≤ 9223372036854775807))  {r : Bool} (H : Hid (P rates mails = some r)) :
    Calls Try.prog 94 #[.slice A0 rates.length c0, .slice A1 mails.length c1] w (Gives (.bool r) w) := by
  have HB := Lib.hid (Below.refl w.heap.size w)
  unfold P at H
  have N0o := N0.out
  have N1o := N1.out
  go_enter Try.func94, Try.ntmps94
  replace H := bind_hid H
  obtain ⟨t_2, qt_2, H⟩ := H
  go_wp2_with fail
  go_at_call 67
  refine (Go.Proofs.Ytlljmgphgmklcaa.GiAreRates.C (rates) A0 c0 _   (Lib.hid (Cells.below M0.out HB.out)) N0 qt_2).mono ?_
  rintro e_t_2 wt_2 ⟨rfl, bt_2⟩
  have HBwt_2 := Lib.hid (Below.step HB.out bt_2)
  clear bt_2
  replace H := join_hid H
  cases t_2 with
  | false =>
    replace H := ite_f H
    replace H := app_hid H
    obtain rfl := ret_hid H
    go_wp2_with fail
    go_ret
    exact ⟨rfl, HBwt_2.out⟩
  | true =>
    replace H := ite_t H
    replace H := bind_hid H
    obtain ⟨t_5, qt_5, H⟩ := H
    go_wp2_with fail
    go_at_call 104
    refine (Go.Proofs.Ytlljmgphgmklcaa.GiIsTimetable.C (mails) A1 c1 _   (Lib.hid (Cells.below M1.out HBwt_2.out)) N1 qt_5).mono ?_
    rintro e_t_5 wt_5 ⟨rfl, bt_5⟩
    have HBwt_5 := Lib.hid (Below.step HBwt_2.out bt_5)
    clear bt_5
    replace H := app_hid H
    obtain rfl := ret_hid H
    go_wp2_with fail
    go_ret
    exact ⟨rfl, HBwt_5.out⟩
end Go.Proofs.Ytlljmgphgmklcaa.GiCanCheckCovers

/- loop.example/g01062/impl.rateOfCover as a plain function, and the contract of the program's: where the plain one has an answer, the program has it. Conditions: slices read as lists. -/
namespace Go.Proofs.Ytlljmgphgmklcaa.GiRateOfCover
set_option linter.unusedVariables false
set_option linter.unusedSimpArgs false
open Go.RowKit
open Go.Proofs.Ytlljmgphgmklcaa.Rowed Go.Proofs.Ytlljmgphgmklcaa.Turn Go.Proofs.Ytlljmgphgmklcaa.Aid Go.Proofs.Ytlljmgphgmklcaa.GoP Go.Proofs.Ytlljmgphgmklcaa.GoM

def P (rates : (List Go.Proofs.Ytlljmgphgmklcaa.PRate.Rate)) (x : Go.Proofs.Ytlljmgphgmklcaa.PCover.Cover) : Option (Int) :=
  unCover x fun (x_id : Int) (x_day : Int) (x_zone : Int) (x_grams : Int) (x_paid : Int) (x_from_ : Int) (x_to_ : Int) (x_leave : Int) (x_arrive : Int) =>
  Option.bind (Go.Proofs.Ytlljmgphgmklcaa.GiRateOn.P rates x_day x_zone x_grams) fun (t_9 : Int) =>
  some t_9

set_option maxRecDepth 100000 in
set_option maxHeartbeats 2000000 in
theorem C (rates : (List Go.Proofs.Ytlljmgphgmklcaa.PRate.Rate)) (x : Go.Proofs.Ytlljmgphgmklcaa.PCover.Cover) (A0 : Option Addr) (c0 : Nat)  (w : World) (M0 : Hid (Cells w 5 A0 rates.length (Go.Proofs.Ytlljmgphgmklcaa.PRate.flat rates))) (N0 : Hid (rates.length ≤ 9223372036854775807))  {r : Int} (H : Hid (P rates x = some r)) :
    Calls Try.prog 102 #[.slice A0 rates.length c0, x.val] w (Gives (.int .i64 r) w) := by
  have HB := Lib.hid (Below.refl w.heap.size w)
  unfold P at H
  obtain ⟨x_id, x_day, x_zone, x_grams, x_paid, x_from_, x_to_, x_leave, x_arrive⟩ := x
  replace H := unCover_hid H
  unfold Go.Proofs.Ytlljmgphgmklcaa.PCover.Cover.val
  have N0o := N0.out
  go_enter Try.func102, Try.ntmps102
  obtain ⟨w_x_0, hw_x_0⟩ : ∃ x, w.alloc (.cells #[.int .i64 x_id, .int .i64 x_day, .int .i64 x_zone, .int .i64 x_grams, .int .i64 x_paid, .int .i64 x_from_, .int .i64 x_to_, .int .i64 x_leave, .int .i64 x_arrive] 25) = x := ⟨_, rfl⟩
  have bw_x_0 : Below w.heap.size w w_x_0 := by rw [← hw_x_0]; exact (Below.refl _ _).alloc (Nat.le_refl _) _
  have HBw_x_0 := Lib.hid (Below.step HB.out bw_x_0)
  clear bw_x_0
  have kx_0_0 : w_x_0.cell? ⟨w.heap.size, 0, none⟩ = some (.int .i64 x_id) := by rw [← hw_x_0]; exact box_new _ _ _ 0 _ rfl
  have kx_0_1 : w_x_0.cell? ⟨w.heap.size, 1, none⟩ = some (.int .i64 x_day) := by rw [← hw_x_0]; exact box_new _ _ _ 1 _ rfl
  have kx_0_2 : w_x_0.cell? ⟨w.heap.size, 2, none⟩ = some (.int .i64 x_zone) := by rw [← hw_x_0]; exact box_new _ _ _ 2 _ rfl
  have kx_0_3 : w_x_0.cell? ⟨w.heap.size, 3, none⟩ = some (.int .i64 x_grams) := by rw [← hw_x_0]; exact box_new _ _ _ 3 _ rfl
  have kx_0_4 : w_x_0.cell? ⟨w.heap.size, 4, none⟩ = some (.int .i64 x_paid) := by rw [← hw_x_0]; exact box_new _ _ _ 4 _ rfl
  have kx_0_5 : w_x_0.cell? ⟨w.heap.size, 5, none⟩ = some (.int .i64 x_from_) := by rw [← hw_x_0]; exact box_new _ _ _ 5 _ rfl
  have kx_0_6 : w_x_0.cell? ⟨w.heap.size, 6, none⟩ = some (.int .i64 x_to_) := by rw [← hw_x_0]; exact box_new _ _ _ 6 _ rfl
  have kx_0_7 : w_x_0.cell? ⟨w.heap.size, 7, none⟩ = some (.int .i64 x_leave) := by rw [← hw_x_0]; exact box_new _ _ _ 7 _ rfl
  have kx_0_8 : w_x_0.cell? ⟨w.heap.size, 8, none⟩ = some (.int .i64 x_arrive) := by rw [← hw_x_0]; exact box_new _ _ _ 8 _ rfl
  replace H := bind_hid H
  obtain ⟨t_9, qt_9, H⟩ := H
  go_wp2_with fail
  go_at_call 131
  refine (Go.Proofs.Ytlljmgphgmklcaa.GiRateOn.C (rates) (x_day) (x_zone) (x_grams) A0 c0 _   (Lib.hid (Cells.below M0.out HBw_x_0.out)) N0 qt_9).mono ?_
  rintro e_t_9 wt_9 ⟨rfl, bt_9⟩
  have HBwt_9 := Lib.hid (Below.step HBw_x_0.out bt_9)
  replace kx_0_0 := cell_below bt_9 kx_0_0
  replace kx_0_1 := cell_below bt_9 kx_0_1
  replace kx_0_2 := cell_below bt_9 kx_0_2
  replace kx_0_3 := cell_below bt_9 kx_0_3
  replace kx_0_4 := cell_below bt_9 kx_0_4
  replace kx_0_5 := cell_below bt_9 kx_0_5
  replace kx_0_6 := cell_below bt_9 kx_0_6
  replace kx_0_7 := cell_below bt_9 kx_0_7
  replace kx_0_8 := cell_below bt_9 kx_0_8
  clear bt_9
  obtain rfl := ret_hid H
  go_wp2_with fail
  go_ret
  exact ⟨rfl, HBwt_9.out⟩
end Go.Proofs.Ytlljmgphgmklcaa.GiRateOfCover

/- loop.example/g01062/impl.faultOn as a plain function, and the contract of the program's: where the plain one has an answer, the program has it. Conditions: slices read as lists. -/
namespace Go.Proofs.Ytlljmgphgmklcaa.GiFaultOn
set_option linter.unusedVariables false
set_option linter.unusedSimpArgs false
open Go.RowKit
open Go.Proofs.Ytlljmgphgmklcaa.Rowed Go.Proofs.Ytlljmgphgmklcaa.Turn Go.Proofs.Ytlljmgphgmklcaa.Aid Go.Proofs.Ytlljmgphgmklcaa.GoP Go.Proofs.Ytlljmgphgmklcaa.GoM

def P (rates : (List Go.Proofs.Ytlljmgphgmklcaa.PRate.Rate)) (mails : (List Go.Proofs.Ytlljmgphgmklcaa.PMail.Mail)) (x : Go.Proofs.Ytlljmgphgmklcaa.PCover.Cover) : Option (Int) :=
  unCover x fun (x_id : Int) (x_day : Int) (x_zone : Int) (x_grams : Int) (x_paid : Int) (x_from_ : Int) (x_to_ : Int) (x_leave : Int) (x_arrive : Int) =>
  Option.bind (Go.Proofs.Ytlljmgphgmklcaa.GiRateOfCover.P rates (Go.Proofs.Ytlljmgphgmklcaa.PCover.Cover.mk x_id x_day x_zone x_grams x_paid x_from_ x_to_ x_leave x_arrive)) fun (t_4 : Int) =>
  Option.bind (Go.Proofs.Ytlljmgphgmklcaa.GiEarliestEnd.P mails (Go.Proofs.Ytlljmgphgmklcaa.PCover.Cover.mk x_id x_day x_zone x_grams x_paid x_from_ x_to_ x_leave x_arrive)) fun (t_7 : Int) =>
  letK (t_4 == 0) fun (t_11 : Bool) =>
  iteK t_11
  (some 1)
  (letK (decide (x_paid < t_4)) fun (t_17 : Bool) =>
  iteK t_17
  (some 2)
  (letK (IntKind.i64.wrap (2 * t_4)) fun (t_23 : Int) =>
  letK (decide (t_23 < x_paid)) fun (t_24 : Bool) =>
  iteK t_24
  (some 3)
  (letK (t_7 == 10000) fun (t_28 : Bool) =>
  iteK t_28
  (some 4)
  (letK (decide (x_arrive < t_7)) fun (t_34 : Bool) =>
  iteK t_34
  (some 5)
  (some 0)))))

set_option maxRecDepth 100000 in
set_option maxHeartbeats 2000000 in
theorem C (rates : (List Go.Proofs.Ytlljmgphgmklcaa.PRate.Rate)) (mails : (List Go.Proofs.Ytlljmgphgmklcaa.PMail.Mail)) (x : Go.Proofs.Ytlljmgphgmklcaa.PCover.Cover) (A0 : Option Addr) (c0 : Nat) (A1 : Option Addr) (c1 : Nat)  (w : World) (M0 : Hid (Cells w 5 A0 rates.length (Go.Proofs.Ytlljmgphgmklcaa.PRate.flat rates))) (N0 : Hid (rates.length ≤ 9223372036854775807)) (M1 : Hid (Cells w 4 A1 mails.length (Go.Proofs.Ytlljmgphgmklcaa.PMail.flat mails))) (N1 : Hid (mails.length ≤ 9223372036854775807))  {r : Int} (H : Hid (P rates mails x = some r)) :
    Calls Try.prog 95 #[.slice A0 rates.length c0, .slice A1 mails.length c1, x.val] w (Gives (.int .i64 r) w) := by
  have HB := Lib.hid (Below.refl w.heap.size w)
  unfold P at H
  obtain ⟨x_id, x_day, x_zone, x_grams, x_paid, x_from_, x_to_, x_leave, x_arrive⟩ := x
  replace H := unCover_hid H
  unfold Go.Proofs.Ytlljmgphgmklcaa.PCover.Cover.val
  have N0o := N0.out
  have N1o := N1.out
  go_enter Try.func95, Try.ntmps95
  obtain ⟨w_x_0, hw_x_0⟩ : ∃ x, w.alloc (.cells #[.int .i64 x_id, .int .i64 x_day, .int .i64 x_zone, .int .i64 x_grams, .int .i64 x_paid, .int .i64 x_from_, .int .i64 x_to_, .int .i64 x_leave, .int .i64 x_arrive] 25) = x := ⟨_, rfl⟩
  have bw_x_0 : Below w.heap.size w w_x_0 := by rw [← hw_x_0]; exact (Below.refl _ _).alloc (Nat.le_refl _) _
  have HBw_x_0 := Lib.hid (Below.step HB.out bw_x_0)
  clear bw_x_0
  have kx_0_0 : w_x_0.cell? ⟨w.heap.size, 0, none⟩ = some (.int .i64 x_id) := by rw [← hw_x_0]; exact box_new _ _ _ 0 _ rfl
  have kx_0_1 : w_x_0.cell? ⟨w.heap.size, 1, none⟩ = some (.int .i64 x_day) := by rw [← hw_x_0]; exact box_new _ _ _ 1 _ rfl
  have kx_0_2 : w_x_0.cell? ⟨w.heap.size, 2, none⟩ = some (.int .i64 x_zone) := by rw [← hw_x_0]; exact box_new _ _ _ 2 _ rfl
  have kx_0_3 : w_x_0.cell? ⟨w.heap.size, 3, none⟩ = some (.int .i64 x_grams) := by rw [← hw_x_0]; exact box_new _ _ _ 3 _ rfl
  have kx_0_4 : w_x_0.cell? ⟨w.heap.size, 4, none⟩ = some (.int .i64 x_paid) := by rw [← hw_x_0]; exact box_new _ _ _ 4 _ rfl
  have kx_0_5 : w_x_0.cell? ⟨w.heap.size, 5, none⟩ = some (.int .i64 x_from_) := by rw [← hw_x_0]; exact box_new _ _ _ 5 _ rfl
  have kx_0_6 : w_x_0.cell? ⟨w.heap.size, 6, none⟩ = some (.int .i64 x_to_) := by rw [← hw_x_0]; exact box_new _ _ _ 6 _ rfl
  have kx_0_7 : w_x_0.cell? ⟨w.heap.size, 7, none⟩ = some (.int .i64 x_leave) := by rw [← hw_x_0]; exact box_new _ _ _ 7 _ rfl
  have kx_0_8 : w_x_0.cell? ⟨w.heap.size, 8, none⟩ = some (.int .i64 x_arrive) := by rw [← hw_x_0]; exact box_new _ _ _ 8 _ rfl
  go_wp2_with fail
  have Hkx_0_0 := Lib.hid kx_0_0
  replace kx_0_0 := cell_regrown kx_0_0
  have Hkx_0_1 := Lib.hid kx_0_1
  replace kx_0_1 := cell_regrown kx_0_1
  have Hkx_0_2 := Lib.hid kx_0_2
  replace kx_0_2 := cell_regrown kx_0_2
  have Hkx_0_3 := Lib.hid kx_0_3
  replace kx_0_3 := cell_regrown kx_0_3
  have Hkx_0_4 := Lib.hid kx_0_4
  replace kx_0_4 := cell_regrown kx_0_4
  have Hkx_0_5 := Lib.hid kx_0_5
  replace kx_0_5 := cell_regrown kx_0_5
  have Hkx_0_6 := Lib.hid kx_0_6
  replace kx_0_6 := cell_regrown kx_0_6
  have Hkx_0_7 := Lib.hid kx_0_7
  replace kx_0_7 := cell_regrown kx_0_7
  have Hkx_0_8 := Lib.hid kx_0_8
  replace kx_0_8 := cell_regrown kx_0_8
  replace H := bind_hid H
  obtain ⟨t_4, qt_4, H⟩ := H
  have nt_4 : ∀ d os, Calls Try.prog 102 #[.slice A0 rates.length c0, .agg #[.int .i64 x_id, .int .i64 x_day, .int .i64 x_zone, .int .i64 x_grams, .int .i64 x_paid, .int .i64 x_from_, .int .i64 x_to_, .int .i64 x_leave, .int .i64 x_arrive]] (Go.Sort.grow (redrawn w_x_0 d) os) fun e w'' => e = .returned (.int .i64 t_4) ∧ ∃ p : Regrown, w'' = Go.Sort.grow (redrawn w_x_0 p.d) p.os := fun d os => Calls.regrown_of (Go.Proofs.Ytlljmgphgmklcaa.GiRateOfCover.C (rates) ((Go.Proofs.Ytlljmgphgmklcaa.PCover.Cover.mk x_id x_day x_zone x_grams x_paid x_from_ x_to_ x_leave x_arrive)) A0 c0 _   (Lib.hid (Cells.below (Cells.below M0.out HBw_x_0.out) (below_regrown _ _ _))) N0 qt_4)
  replace H := bind_hid H
  obtain ⟨t_7, qt_7, H⟩ := H
  have nt_7 : ∀ d os, Calls Try.prog 105 #[.slice A1 mails.length c1, .agg #[.int .i64 x_id, .int .i64 x_day, .int .i64 x_zone, .int .i64 x_grams, .int .i64 x_paid, .int .i64 x_from_, .int .i64 x_to_, .int .i64 x_leave, .int .i64 x_arrive]] (Go.Sort.grow (redrawn w_x_0 d) os) fun e w'' => e = .returned (.int .i64 t_7) ∧ ∃ p : Regrown, w'' = Go.Sort.grow (redrawn w_x_0 p.d) p.os := fun d os => Calls.regrown_of (Go.Proofs.Ytlljmgphgmklcaa.GiEarliestEnd.C (mails) ((Go.Proofs.Ytlljmgphgmklcaa.PCover.Cover.mk x_id x_day x_zone x_grams x_paid x_from_ x_to_ x_leave x_arrive)) A1 c1 _   (Lib.hid (Cells.below (Cells.below M1.out HBw_x_0.out) (below_regrown _ _ _))) N1 qt_7)
  refine wp_region_quiet_below (by kernel_rfl) (by kernel_rfl) ?_
  repeat (go_big_quiet_step (first | (go_at_call 102; exact nt_4 _ _) | (go_at_call 105; exact nt_7 _ _)))
  refine wpQuiet_nil ?_
  intro Y1 hY1
  replace hY1 := below_class hY1
  clear nt_4 nt_7
  replace kx_0_0 := Hkx_0_0.out
  clear Hkx_0_0
  replace kx_0_1 := Hkx_0_1.out
  clear Hkx_0_1
  replace kx_0_2 := Hkx_0_2.out
  clear Hkx_0_2
  replace kx_0_3 := Hkx_0_3.out
  clear Hkx_0_3
  replace kx_0_4 := Hkx_0_4.out
  clear Hkx_0_4
  replace kx_0_5 := Hkx_0_5.out
  clear Hkx_0_5
  replace kx_0_6 := Hkx_0_6.out
  clear Hkx_0_6
  replace kx_0_7 := Hkx_0_7.out
  clear Hkx_0_7
  replace kx_0_8 := Hkx_0_8.out
  clear Hkx_0_8
  have HBY1 := Lib.hid (Below.step HBw_x_0.out hY1)
  replace kx_0_0 := cell_below hY1 kx_0_0
  replace kx_0_1 := cell_below hY1 kx_0_1
  replace kx_0_2 := cell_below hY1 kx_0_2
  replace kx_0_3 := cell_below hY1 kx_0_3
  replace kx_0_4 := cell_below hY1 kx_0_4
  replace kx_0_5 := cell_below hY1 kx_0_5
  replace kx_0_6 := cell_below hY1 kx_0_6
  replace kx_0_7 := cell_below hY1 kx_0_7
  replace kx_0_8 := cell_below hY1 kx_0_8
  clear hY1
  replace H := let_hid H
  obtain ⟨t_11, ht_11, H⟩ := H
  cases t_11 with
  | false =>
    replace H := ite_f H
    replace H := let_hid H
    obtain ⟨t_17, ht_17, H⟩ := H
    cases t_17 with
    | false =>
      replace H := ite_f H
      replace H := let_hid H
      obtain ⟨t_23, ht_23, H⟩ := H
      replace H := let_hid H
      obtain ⟨t_24, ht_24, H⟩ := H
      cases t_24 with
      | false =>
        replace H := ite_f H
        replace H := let_hid H
        obtain ⟨t_28, ht_28, H⟩ := H
        cases t_28 with
        | false =>
          replace H := ite_f H
          replace H := let_hid H
          obtain ⟨t_34, ht_34, H⟩ := H
          cases t_34 with
          | false =>
            replace H := ite_f H
            obtain rfl := ret_hid H
            go_wp2_with fail
            go_ret
            exact ⟨rfl, HBY1.out⟩
          | true =>
            replace H := ite_t H
            obtain rfl := ret_hid H
            go_wp2_with fail
            go_ret
            exact ⟨rfl, HBY1.out⟩
        | true =>
          replace H := ite_t H
          obtain rfl := ret_hid H
          go_wp2_with fail
          go_ret
          exact ⟨rfl, HBY1.out⟩
      | true =>
        replace H := ite_t H
        obtain rfl := ret_hid H
        go_wp2_with fail
        go_ret
        exact ⟨rfl, HBY1.out⟩
    | true =>
      replace H := ite_t H
      obtain rfl := ret_hid H
      go_wp2_with fail
      go_ret
      exact ⟨rfl, HBY1.out⟩
  | true =>
    replace H := ite_t H
    obtain rfl := ret_hid H
    go_wp2_with fail
    go_ret
    exact ⟨rfl, HBY1.out⟩
end Go.Proofs.Ytlljmgphgmklcaa.GiFaultOn

