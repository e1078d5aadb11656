/- Texts on which the proofs of several laws stand, one behind the other (6 of 10). No condition of their own. -/
import Derived.Test.YtlljmgphgmklcaaDoorChecked
import Derived.Test.YtlljmgphgmklcaaDoorR10P1
import Derived.Test.YtlljmgphgmklcaaDoorR10P2
import Derived.Test.YtlljmgphgmklcaaDoorR10P5
import Derived.WalkKit
import Derived.WalkSpells
import Derived.WalkLawsBesides
import Derived.BigQuiet
import Derived.OwnWalk
import Derived.Deep.LoopGhost
import Derived.Deep.QuietTactic
import Derived.IntWalk
import Derived.Lib.QuietBelow
import Derived.Laws.StructEq
import Derived.ChangeKeysEq
import Derived.Test.YtlljmgphgmklcaaDoorR10P4
import Derived.Test.YtlljmgphgmklcaaDoorR10P3
/- loop.example/g01062/spec.l8Good as a plain function, and the contract of the program's: where the plain one has an answer, the program has it. Conditions: slices read as lists. -/
namespace Go.Proofs.YtlljmgphgmklcaaDoor.GsL8Good
set_option linter.unusedVariables false
set_option linter.unusedSimpArgs false
open Go.RowKit
open Go.Proofs.YtlljmgphgmklcaaDoor.Rowed Go.Proofs.YtlljmgphgmklcaaDoor.Turn Go.Proofs.YtlljmgphgmklcaaDoor.Aid Go.Proofs.YtlljmgphgmklcaaDoor.GoP Go.Proofs.YtlljmgphgmklcaaDoor.GoM

def l0 (list : (List Go.Proofs.YtlljmgphgmklcaaDoor.PRate.Rate)) (s : Int) (nx0 bk0 : Int → Option (Bool)) : Option (Bool) :=
  letK s fun i_3l0 =>
  letK (decide (i_3l0 < (list.length : Int))) fun (t_5 : Bool) =>
  joinK (fun (t_9 : Bool) =>
  iteK t_9
  (Option.bind (idx list i_3l0) fun (yt_12 : Go.Proofs.YtlljmgphgmklcaaDoor.PRate.Rate) =>
  unRate yt_12 fun (t_12_zone : Int) (t_12_grams : Int) (t_12_from_ : Int) (t_12_until_ : Int) (t_12_cents : Int) =>
  Option.bind (Go.Proofs.YtlljmgphgmklcaaDoor.GsL8One.P (Go.Proofs.YtlljmgphgmklcaaDoor.PRate.Rate.mk t_12_zone t_12_grams t_12_from_ t_12_until_ t_12_cents)) fun (t_14 : Bool) =>
  letK (!t_14) fun (t_15 : Bool) =>
  joinK (fun (t_33 : Bool) =>
  iteK t_33
  (some false)
  (letK (decide (0 < i_3l0)) fun (t_36 : Bool) =>
  joinK (fun (t_50 : Bool) =>
  joinK (fun (t_64 : Bool) =>
  joinK (fun (t_78 : Bool) =>
  iteK t_78
  (some false)
  (letK (IntKind.i64.wrap (i_3l0 + 1)) fun (t_81 : Int) =>
  appK nx0 (t_81))) fun jt_78 => iteK t_64 (letK (IntKind.i64.wrap (i_3l0 - 1)) fun (t_68 : Int) =>
  Option.bind (idx list t_68) fun (yt_69 : Go.Proofs.YtlljmgphgmklcaaDoor.PRate.Rate) =>
  unRate yt_69 fun (t_69_zone : Int) (t_69_grams : Int) (t_69_from_ : Int) (t_69_until_ : Int) (t_69_cents : Int) =>
  Option.bind (idx list i_3l0) fun (yt_74 : Go.Proofs.YtlljmgphgmklcaaDoor.PRate.Rate) =>
  unRate yt_74 fun (t_74_zone : Int) (t_74_grams : Int) (t_74_from_ : Int) (t_74_until_ : Int) (t_74_cents : Int) =>
  letK (decide (t_74_from_ ≤ t_69_until_)) fun (t_77 : Bool) =>
  appK jt_78 t_77) (appK jt_78 false)) fun jt_64 => iteK t_50 (letK (IntKind.i64.wrap (i_3l0 - 1)) fun (t_54 : Int) =>
  Option.bind (idx list t_54) fun (yt_55 : Go.Proofs.YtlljmgphgmklcaaDoor.PRate.Rate) =>
  unRate yt_55 fun (t_55_zone : Int) (t_55_grams : Int) (t_55_from_ : Int) (t_55_until_ : Int) (t_55_cents : Int) =>
  Option.bind (idx list i_3l0) fun (yt_60 : Go.Proofs.YtlljmgphgmklcaaDoor.PRate.Rate) =>
  unRate yt_60 fun (t_60_zone : Int) (t_60_grams : Int) (t_60_from_ : Int) (t_60_until_ : Int) (t_60_cents : Int) =>
  letK (t_55_grams == t_60_grams) fun (t_63 : Bool) =>
  appK jt_64 t_63) (appK jt_64 false)) fun jt_50 => iteK t_36 (letK (IntKind.i64.wrap (i_3l0 - 1)) fun (t_40 : Int) =>
  Option.bind (idx list t_40) fun (yt_41 : Go.Proofs.YtlljmgphgmklcaaDoor.PRate.Rate) =>
  unRate yt_41 fun (t_41_zone : Int) (t_41_grams : Int) (t_41_from_ : Int) (t_41_until_ : Int) (t_41_cents : Int) =>
  Option.bind (idx list i_3l0) fun (yt_46 : Go.Proofs.YtlljmgphgmklcaaDoor.PRate.Rate) =>
  unRate yt_46 fun (t_46_zone : Int) (t_46_grams : Int) (t_46_from_ : Int) (t_46_until_ : Int) (t_46_cents : Int) =>
  letK (t_41_zone == t_46_zone) fun (t_49 : Bool) =>
  appK jt_50 t_49) (appK jt_50 false))) fun jt_33 => iteK t_15 (appK jt_33 true) (letK (decide (0 < i_3l0)) fun (t_18 : Bool) =>
  joinK (fun (t_32 : Bool) =>
  appK jt_33 t_32) fun jt_32 => iteK t_18 (letK (IntKind.i64.wrap (i_3l0 - 1)) fun (t_22 : Int) =>
  Option.bind (idx list t_22) fun (yt_23 : Go.Proofs.YtlljmgphgmklcaaDoor.PRate.Rate) =>
  unRate yt_23 fun (t_23_zone : Int) (t_23_grams : Int) (t_23_from_ : Int) (t_23_until_ : Int) (t_23_cents : Int) =>
  Option.bind (Go.Proofs.YtlljmgphgmklcaaDoor.GsL8Code.P (Go.Proofs.YtlljmgphgmklcaaDoor.PRate.Rate.mk t_23_zone t_23_grams t_23_from_ t_23_until_ t_23_cents)) fun (t_25 : Int) =>
  Option.bind (idx list i_3l0) fun (yt_28 : Go.Proofs.YtlljmgphgmklcaaDoor.PRate.Rate) =>
  unRate yt_28 fun (t_28_zone : Int) (t_28_grams : Int) (t_28_from_ : Int) (t_28_until_ : Int) (t_28_cents : Int) =>
  Option.bind (Go.Proofs.YtlljmgphgmklcaaDoor.GsL8Code.P (Go.Proofs.YtlljmgphgmklcaaDoor.PRate.Rate.mk t_28_zone t_28_grams t_28_from_ t_28_until_ t_28_cents)) fun (t_30 : Int) =>
  letK (decide (t_30 ≤ t_25)) fun (t_31 : Bool) =>
  appK jt_32 t_31) (appK jt_32 false)))
  (appK bk0 (i_3l0))) fun jt_9 => iteK t_5 (letK (decide (i_3l0 ≤ 16)) fun (t_8 : Bool) =>
  appK jt_9 t_8) (appK jt_9 false)

def e0 (list : (List Go.Proofs.YtlljmgphgmklcaaDoor.PRate.Rate)) (s : Int) : Option (Bool) :=
  letK s fun i_3l0 =>
  letK (decide ((list.length : Int) ≤ 16)) fun (t_85 : Bool) =>
  some t_85

def P (fuel : Nat) (list : (List Go.Proofs.YtlljmgphgmklcaaDoor.PRate.Rate)) : Option (Bool) :=
  loopK (l0 list) fuel (0) (e0 list)

set_option maxRecDepth 100000 in
set_option maxHeartbeats 2000000 in
theorem C (fuel : Nat) (list : (List Go.Proofs.YtlljmgphgmklcaaDoor.PRate.Rate)) (A0 : Option Addr) (c0 : Nat)  (w : World) (M0 : Hid (Cells w 5 A0 list.length (Go.Proofs.YtlljmgphgmklcaaDoor.PRate.flat list))) (N0 : Hid (list.length ≤ 9223372036854775807))  {r : Bool} (H : Hid (P fuel list = some r)) :
    Calls Tryd.prog 26 #[.slice A0 list.length c0] w (Gives (.bool r) w) := by
  have HB := Lib.hid (Below.refl w.heap.size w)
  unfold P at H
  have N0o := N0.out
  go_enter Tryd.func26, Tryd.ntmps26
  go_wp2_with fail
  go_loopg [3] (fuel) (fun m_ v3_ wr => ∃ (i_3l0 : Int), v3_ = .int .i64 i_3l0 ∧ Hid (loopK (l0 list) m_ (i_3l0) (e0 list) = some r) ∧ Hid (Below w.heap.size w wr))
  case atStart => exact ⟨_, rfl, H, HB⟩
  case round =>
    obtain ⟨i_3l0, rfl, H, HBwr0⟩ := hrel
    rename World => wr0
    cases gk with
    | zero => exact (loop_zero H).elim
    | succ m0 =>
      replace H := loop_succ H
      unfold l0 at H
      replace H := let_hid H
      obtain ⟨_, rfl, H⟩ := H
      replace H := let_hid H
      obtain ⟨t_5, ht_5, H⟩ := H
      replace H := join_hid H
      cases t_5 with
      | false =>
        replace H := ite_f H
        replace H := app_hid H
        replace H := ite_f H
        replace H := app_hid H
        unfold e0 at H
        replace H := let_hid H
        obtain ⟨_, rfl, H⟩ := H
        replace H := let_hid H
        obtain ⟨t_85, ht_85, H⟩ := H
        obtain rfl := ret_hid H
        go_wp2_with fail
        go_ret
        exact ⟨rfl, HBwr0.out⟩
      | true =>
        replace H := ite_t H
        replace H := let_hid H
        obtain ⟨t_8, ht_8, H⟩ := H
        replace H := app_hid H
        cases t_8 with
        | false =>
          replace H := ite_f H
          replace H := app_hid H
          unfold e0 at H
          replace H := let_hid H
          obtain ⟨_, rfl, H⟩ := H
          replace H := let_hid H
          obtain ⟨t_85, ht_85, H⟩ := H
          obtain rfl := ret_hid H
          go_wp2_with fail
          go_ret
          exact ⟨rfl, HBwr0.out⟩
        | true =>
          replace H := ite_t H
          go_wp2_with fail
          replace H := idx_hid H
          obtain ⟨nt_12, yt_12, et_12, lt_12, gt_12, H⟩ := H
          subst et_12
          have nc_172 : nt_12 < list.length := by have := of_decide_eq_true ht_5; omega
          have nc_173 : nt_12 ≤ 16 := by have := of_decide_eq_true ht_8; omega
          obtain ⟨t_12_zone, t_12_grams, t_12_from_, t_12_until_, t_12_cents⟩ := yt_12
          replace H := unRate_hid H
          obtain ⟨ab_t_12, ao_t_12, zt_12, At_12, z_t_12, ct_12_0, ct_12_1, ct_12_2, ct_12_3, ct_12_4⟩ := Go.Proofs.YtlljmgphgmklcaaDoor.ORate.at_ M0.out lt_12
          obtain rfl := Option.some.inj (gt_12.out.symm.trans z_t_12)
          subst At_12
          have ltt_12 := cell_lt ct_12_0
          replace ct_12_0 := cell_below HBwr0.out ct_12_0
          replace ct_12_1 := cell_below HBwr0.out ct_12_1
          replace ct_12_2 := cell_below HBwr0.out ct_12_2
          replace ct_12_3 := cell_below HBwr0.out ct_12_3
          replace ct_12_4 := cell_below HBwr0.out ct_12_4
          clear z_t_12
          have b0t_12 : (0 : Int) ≤ (nt_12 : Int) := by omega
          have b1t_12 : (nt_12 : Int) < ((list.length : Nat) : Int) := by omega
          have b2t_12 : ((nt_12 : Int)).toNat = nt_12 := by omega
          have Hct_12_0 := Lib.hid ct_12_0
          replace ct_12_0 := cell_regrown ct_12_0
          have Hct_12_1 := Lib.hid ct_12_1
          replace ct_12_1 := cell_regrown ct_12_1
          have Hct_12_2 := Lib.hid ct_12_2
          replace ct_12_2 := cell_regrown ct_12_2
          have Hct_12_3 := Lib.hid ct_12_3
          replace ct_12_3 := cell_regrown ct_12_3
          have Hct_12_4 := Lib.hid ct_12_4
          replace ct_12_4 := cell_regrown ct_12_4
          replace H := bind_hid H
          obtain ⟨t_14, qt_14, H⟩ := H
          have nt_14 : ∀ d os, Calls Tryd.prog 40 #[.agg #[.int .i64 t_12_zone, .int .i64 t_12_grams, .int .i64 t_12_from_, .int .i64 t_12_until_, .int .i64 t_12_cents]] (Go.Sort.grow (redrawn wr0 d) os) fun e w'' => e = .returned (.bool t_14) ∧ ∃ p : Regrown, w'' = Go.Sort.grow (redrawn wr0 p.d) p.os := fun d os => Calls.regrown_of (Go.Proofs.YtlljmgphgmklcaaDoor.GsL8One.C ((Go.Proofs.YtlljmgphgmklcaaDoor.PRate.Rate.mk t_12_zone t_12_grams t_12_from_ t_12_until_ t_12_cents))  _    qt_14)
          cases t_14 with
          | false =>
            replace H := let_hid H
            obtain ⟨t_15, ht_15, H⟩ := H
            obtain rfl : t_15 = true := ht_15.symm
            replace H := join_hid H
            replace H := ite_t H
            replace H := app_hid H
            refine wp_region_quiet_below (by kernel_rfl) (by kernel_rfl) ?_
            repeat (go_big_quiet_step (first | (go_at_call 40; exact nt_14 _ _)))
            refine wpQuiet_nil ?_
            intro Y4 hY4
            replace hY4 := below_class hY4
            clear nt_14
            replace ct_12_0 := Hct_12_0.out
            clear Hct_12_0
            replace ct_12_1 := Hct_12_1.out
            clear Hct_12_1
            replace ct_12_2 := Hct_12_2.out
            clear Hct_12_2
            replace ct_12_3 := Hct_12_3.out
            clear Hct_12_3
            replace ct_12_4 := Hct_12_4.out
            clear Hct_12_4
            have HBY4 := Lib.hid (Below.step HBwr0.out hY4)
            replace ct_12_0 := cell_below hY4 ct_12_0
            replace ct_12_1 := cell_below hY4 ct_12_1
            replace ct_12_2 := cell_below hY4 ct_12_2
            replace ct_12_3 := cell_below hY4 ct_12_3
            replace ct_12_4 := cell_below hY4 ct_12_4
            clear hY4
            replace H := ite_t H
            obtain rfl := ret_hid H
            go_wp2_with fail
            go_ret
            exact ⟨rfl, HBY4.out⟩
          | true =>
            replace H := let_hid H
            obtain ⟨t_15, ht_15, H⟩ := H
            obtain rfl : t_15 = false := ht_15.symm
            replace H := join_hid H
            replace H := ite_f H
            replace H := let_hid H
            obtain ⟨t_18, ht_18, H⟩ := H
            replace H := join_hid H
            cases t_18 with
            | false =>
              have nht_18 : ¬ (0 < nt_12) := by have := of_decide_eq_false ht_18; omega
              replace H := ite_f H
              replace H := app_hid H
              replace H := app_hid H
              refine wp_region_quiet_below (by kernel_rfl) (by kernel_rfl) ?_
              repeat (go_big_quiet_step (first | (go_at_call 40; exact nt_14 _ _)))
              refine wpQuiet_nil ?_
              intro Y4 hY4
              replace hY4 := below_class hY4
              clear nt_14
              replace ct_12_0 := Hct_12_0.out
              clear Hct_12_0
              replace ct_12_1 := Hct_12_1.out
              clear Hct_12_1
              replace ct_12_2 := Hct_12_2.out
              clear Hct_12_2
              replace ct_12_3 := Hct_12_3.out
              clear Hct_12_3
              replace ct_12_4 := Hct_12_4.out
              clear Hct_12_4
              have HBY4 := Lib.hid (Below.step HBwr0.out hY4)
              replace ct_12_0 := cell_below hY4 ct_12_0
              replace ct_12_1 := cell_below hY4 ct_12_1
              replace ct_12_2 := cell_below hY4 ct_12_2
              replace ct_12_3 := cell_below hY4 ct_12_3
              replace ct_12_4 := cell_below hY4 ct_12_4
              clear hY4
              replace H := ite_f H
              go_wp2_with fail
              have Hct_12_0 := Lib.hid ct_12_0
              replace ct_12_0 := cell_regrown ct_12_0
              have Hct_12_1 := Lib.hid ct_12_1
              replace ct_12_1 := cell_regrown ct_12_1
              have Hct_12_2 := Lib.hid ct_12_2
              replace ct_12_2 := cell_regrown ct_12_2
              have Hct_12_3 := Lib.hid ct_12_3
              replace ct_12_3 := cell_regrown ct_12_3
              have Hct_12_4 := Lib.hid ct_12_4
              replace ct_12_4 := cell_regrown ct_12_4
              replace H := let_hid H
              obtain ⟨t_36, ht_36, H⟩ := H
              obtain rfl := ht_18.symm.trans ht_36
              replace H := join_hid H
              replace H := ite_f H
              replace H := app_hid H
              replace H := join_hid H
              replace H := ite_f H
              replace H := app_hid H
              replace H := join_hid H
              replace H := ite_f H
              replace H := app_hid H
              refine wp_region_quiet_below (by kernel_rfl) (by kernel_rfl) ?_
              repeat (go_big_quiet_step (fail))
              refine wpQuiet_nil ?_
              intro Y6 hY6
              replace hY6 := below_class hY6
              replace ct_12_0 := Hct_12_0.out
              clear Hct_12_0
              replace ct_12_1 := Hct_12_1.out
              clear Hct_12_1
              replace ct_12_2 := Hct_12_2.out
              clear Hct_12_2
              replace ct_12_3 := Hct_12_3.out
              clear Hct_12_3
              replace ct_12_4 := Hct_12_4.out
              clear Hct_12_4
              have HBY6 := Lib.hid (Below.step HBY4.out hY6)
              replace ct_12_0 := cell_below hY6 ct_12_0
              replace ct_12_1 := cell_below hY6 ct_12_1
              replace ct_12_2 := cell_below hY6 ct_12_2
              replace ct_12_3 := cell_below hY6 ct_12_3
              replace ct_12_4 := cell_below hY6 ct_12_4
              clear hY6
              replace H := ite_f H
              replace H := let_hid H
              obtain ⟨t_81, ht_81, H⟩ := H
              replace H := app_hid H
              go_wp2_with fail
              go_roundg m0
              case measure => omega
              case rel => exact ⟨_, rfl, H, HBY6⟩
            | true =>
              have nht_18 : 0 < nt_12 := by have := of_decide_eq_true ht_18; omega
              replace H := ite_t H
              replace H := let_hid H
              obtain ⟨t_22, ht_22, H⟩ := H
              replace H := idx_hid H
              obtain ⟨nt_23, yt_23, et_23, lt_23, gt_23, H⟩ := H
              subst et_23
              obtain ⟨t_23_zone, t_23_grams, t_23_from_, t_23_until_, t_23_cents⟩ := yt_23
              replace H := unRate_hid H
              obtain ⟨ab_t_23, ao_t_23, zt_23, At_23, z_t_23, ct_23_0, ct_23_1, ct_23_2, ct_23_3, ct_23_4⟩ := Go.Proofs.YtlljmgphgmklcaaDoor.ORate.at_ M0.out lt_23
              obtain rfl := Option.some.inj (gt_23.out.symm.trans z_t_23)
              simp only [Option.some.injEq, Addr.mk.injEq] at At_23
              obtain ⟨rfl, rfl, _⟩ := At_23
              have ltt_23 := cell_lt ct_23_0
              replace ct_23_0 := cell_below HBwr0.out ct_23_0
              replace ct_23_1 := cell_below HBwr0.out ct_23_1
              replace ct_23_2 := cell_below HBwr0.out ct_23_2
              replace ct_23_3 := cell_below HBwr0.out ct_23_3
              replace ct_23_4 := cell_below HBwr0.out ct_23_4
              clear z_t_23
              have b0t_23 : (0 : Int) ≤ (nt_23 : Int) := by omega
              have b1t_23 : (nt_23 : Int) < ((list.length : Nat) : Int) := by omega
              have b2t_23 : ((nt_23 : Int)).toNat = nt_23 := by omega
              have Hct_23_0 := Lib.hid ct_23_0
              replace ct_23_0 := cell_regrown ct_23_0
              have Hct_23_1 := Lib.hid ct_23_1
              replace ct_23_1 := cell_regrown ct_23_1
              have Hct_23_2 := Lib.hid ct_23_2
              replace ct_23_2 := cell_regrown ct_23_2
              have Hct_23_3 := Lib.hid ct_23_3
              replace ct_23_3 := cell_regrown ct_23_3
              have Hct_23_4 := Lib.hid ct_23_4
              replace ct_23_4 := cell_regrown ct_23_4
              replace H := bind_hid H
              obtain ⟨t_25, qt_25, H⟩ := H
              have nt_25 : ∀ d os, Calls Tryd.prog 47 #[.agg #[.int .i64 t_23_zone, .int .i64 t_23_grams, .int .i64 t_23_from_, .int .i64 t_23_until_, .int .i64 t_23_cents]] (Go.Sort.grow (redrawn wr0 d) os) fun e w'' => e = .returned (.int .i64 t_25) ∧ ∃ p : Regrown, w'' = Go.Sort.grow (redrawn wr0 p.d) p.os := fun d os => Calls.regrown_of (Go.Proofs.YtlljmgphgmklcaaDoor.GsL8Code.C ((Go.Proofs.YtlljmgphgmklcaaDoor.PRate.Rate.mk t_23_zone t_23_grams t_23_from_ t_23_until_ t_23_cents))  _    qt_25)
              replace H := idx_hid H
              obtain ⟨nt_28, yt_28, et_28, lt_28, gt_28, H⟩ := H
              obtain rfl : nt_12 = nt_28 := by omega
              clear et_28
              obtain rfl := Option.some.inj (gt_12.out.symm.trans gt_28.out)
              clear gt_28 lt_28
              replace H := unRate_hid H
              replace H := bind_hid H
              obtain ⟨t_30, qt_30, H⟩ := H
              have nt_30 : ∀ d os, Calls Tryd.prog 47 #[.agg #[.int .i64 t_12_zone, .int .i64 t_12_grams, .int .i64 t_12_from_, .int .i64 t_12_until_, .int .i64 t_12_cents]] (Go.Sort.grow (redrawn wr0 d) os) fun e w'' => e = .returned (.int .i64 t_30) ∧ ∃ p : Regrown, w'' = Go.Sort.grow (redrawn wr0 p.d) p.os := fun d os => Calls.regrown_of (Go.Proofs.YtlljmgphgmklcaaDoor.GsL8Code.C ((Go.Proofs.YtlljmgphgmklcaaDoor.PRate.Rate.mk t_12_zone t_12_grams t_12_from_ t_12_until_ t_12_cents))  _    qt_30)
              replace H := let_hid H
              obtain ⟨t_31, ht_31, H⟩ := H
              replace H := app_hid H
              replace H := app_hid H
              refine wp_region_quiet_below (by kernel_rfl) (by kernel_rfl) ?_
              repeat (go_big_quiet_step (first | (go_at_call 47; with_reducible exact nt_25 _ _) | (go_at_call 47; with_reducible exact nt_30 _ _) | (go_at_call 40; exact nt_14 _ _) | (go_at_call 47; exact nt_25 _ _) | (go_at_call 47; exact nt_30 _ _)))
              refine wpQuiet_nil ?_
              intro Y4 hY4
              replace hY4 := below_class hY4
              clear nt_14 nt_25 nt_30
              replace ct_12_0 := Hct_12_0.out
              clear Hct_12_0
              replace ct_12_1 := Hct_12_1.out
              clear Hct_12_1
              replace ct_12_2 := Hct_12_2.out
              clear Hct_12_2
              replace ct_12_3 := Hct_12_3.out
              clear Hct_12_3
              replace ct_12_4 := Hct_12_4.out
              clear Hct_12_4
              replace ct_23_0 := Hct_23_0.out
              clear Hct_23_0
              replace ct_23_1 := Hct_23_1.out
              clear Hct_23_1
              replace ct_23_2 := Hct_23_2.out
              clear Hct_23_2
              replace ct_23_3 := Hct_23_3.out
              clear Hct_23_3
              replace ct_23_4 := Hct_23_4.out
              clear Hct_23_4
              have HBY4 := Lib.hid (Below.step HBwr0.out hY4)
              replace ct_12_0 := cell_below hY4 ct_12_0
              replace ct_12_1 := cell_below hY4 ct_12_1
              replace ct_12_2 := cell_below hY4 ct_12_2
              replace ct_12_3 := cell_below hY4 ct_12_3
              replace ct_12_4 := cell_below hY4 ct_12_4
              replace ct_23_0 := cell_below hY4 ct_23_0
              replace ct_23_1 := cell_below hY4 ct_23_1
              replace ct_23_2 := cell_below hY4 ct_23_2
              replace ct_23_3 := cell_below hY4 ct_23_3
              replace ct_23_4 := cell_below hY4 ct_23_4
              clear hY4
              cases t_31 with
              | false =>
                replace H := ite_f H
                go_wp2_with fail
                have Hct_12_0 := Lib.hid ct_12_0
                replace ct_12_0 := cell_regrown ct_12_0
                have Hct_12_1 := Lib.hid ct_12_1
                replace ct_12_1 := cell_regrown ct_12_1
                have Hct_12_2 := Lib.hid ct_12_2
                replace ct_12_2 := cell_regrown ct_12_2
                have Hct_12_3 := Lib.hid ct_12_3
                replace ct_12_3 := cell_regrown ct_12_3
                have Hct_12_4 := Lib.hid ct_12_4
                replace ct_12_4 := cell_regrown ct_12_4
                have Hct_23_0 := Lib.hid ct_23_0
                replace ct_23_0 := cell_regrown ct_23_0
                have Hct_23_1 := Lib.hid ct_23_1
                replace ct_23_1 := cell_regrown ct_23_1
                have Hct_23_2 := Lib.hid ct_23_2
                replace ct_23_2 := cell_regrown ct_23_2
                have Hct_23_3 := Lib.hid ct_23_3
                replace ct_23_3 := cell_regrown ct_23_3
                have Hct_23_4 := Lib.hid ct_23_4
                replace ct_23_4 := cell_regrown ct_23_4
                replace H := let_hid H
                obtain ⟨t_36, ht_36, H⟩ := H
                obtain rfl := ht_18.symm.trans ht_36
                replace H := join_hid H
                replace H := ite_t H
                replace H := let_hid H
                obtain ⟨t_40, ht_40, H⟩ := H
                obtain rfl := ht_22.symm.trans ht_40
                replace H := idx_hid H
                obtain ⟨nt_41, yt_41, et_41, lt_41, gt_41, H⟩ := H
                obtain rfl : nt_23 = nt_41 := by omega
                clear et_41
                obtain rfl := Option.some.inj (gt_23.out.symm.trans gt_41.out)
                clear gt_41 lt_41
                replace H := unRate_hid H
                replace H := idx_hid H
                obtain ⟨nt_46, yt_46, et_46, lt_46, gt_46, H⟩ := H
                obtain rfl : nt_12 = nt_46 := by omega
                clear et_46
                obtain rfl := Option.some.inj (gt_12.out.symm.trans gt_46.out)
                clear gt_46 lt_46
                replace H := unRate_hid H
                replace H := let_hid H
                obtain ⟨t_49, ht_49, H⟩ := H
                replace H := app_hid H
                replace H := join_hid H
                cases t_49 with
                | false =>
                  replace H := ite_f H
                  replace H := app_hid H
                  replace H := join_hid H
                  replace H := ite_f H
                  replace H := app_hid H
                  refine wp_region_quiet_below (by kernel_rfl) (by kernel_rfl) ?_
                  repeat (go_big_quiet_step (fail))
                  refine wpQuiet_nil ?_
                  intro Y6 hY6
                  replace hY6 := below_class hY6
                  replace ct_12_0 := Hct_12_0.out
                  clear Hct_12_0
                  replace ct_12_1 := Hct_12_1.out
                  clear Hct_12_1
                  replace ct_12_2 := Hct_12_2.out
                  clear Hct_12_2
                  replace ct_12_3 := Hct_12_3.out
                  clear Hct_12_3
                  replace ct_12_4 := Hct_12_4.out
                  clear Hct_12_4
                  replace ct_23_0 := Hct_23_0.out
                  clear Hct_23_0
                  replace ct_23_1 := Hct_23_1.out
                  clear Hct_23_1
                  replace ct_23_2 := Hct_23_2.out
                  clear Hct_23_2
                  replace ct_23_3 := Hct_23_3.out
                  clear Hct_23_3
                  replace ct_23_4 := Hct_23_4.out
                  clear Hct_23_4
                  have HBY6 := Lib.hid (Below.step HBY4.out hY6)
                  replace ct_12_0 := cell_below hY6 ct_12_0
                  replace ct_12_1 := cell_below hY6 ct_12_1
                  replace ct_12_2 := cell_below hY6 ct_12_2
                  replace ct_12_3 := cell_below hY6 ct_12_3
                  replace ct_12_4 := cell_below hY6 ct_12_4
                  replace ct_23_0 := cell_below hY6 ct_23_0
                  replace ct_23_1 := cell_below hY6 ct_23_1
                  replace ct_23_2 := cell_below hY6 ct_23_2
                  replace ct_23_3 := cell_below hY6 ct_23_3
                  replace ct_23_4 := cell_below hY6 ct_23_4
                  clear hY6
                  replace H := ite_f H
                  replace H := let_hid H
                  obtain ⟨t_81, ht_81, H⟩ := H
                  replace H := app_hid H
                  go_wp2_with fail
                  go_roundg m0
                  case measure => omega
                  case rel => exact ⟨_, rfl, H, HBY6⟩
                | true =>
                  replace H := ite_t H
                  replace H := let_hid H
                  obtain ⟨t_54, ht_54, H⟩ := H
                  obtain rfl := ht_22.symm.trans ht_54
                  replace H := idx_hid H
                  obtain ⟨nt_55, yt_55, et_55, lt_55, gt_55, H⟩ := H
                  obtain rfl : nt_23 = nt_55 := by omega
                  clear et_55
                  obtain rfl := Option.some.inj (gt_23.out.symm.trans gt_55.out)
                  clear gt_55 lt_55
                  replace H := unRate_hid H
                  replace H := idx_hid H
                  obtain ⟨nt_60, yt_60, et_60, lt_60, gt_60, H⟩ := H
                  obtain rfl : nt_12 = nt_60 := by omega
                  clear et_60
                  obtain rfl := Option.some.inj (gt_12.out.symm.trans gt_60.out)
                  clear gt_60 lt_60
                  replace H := unRate_hid H
                  replace H := let_hid H
                  obtain ⟨t_63, ht_63, H⟩ := H
                  replace H := app_hid H
                  replace H := join_hid H
                  cases t_63 with
                  | false =>
                    replace H := ite_f H
                    replace H := app_hid H
                    refine wp_region_quiet_below (by kernel_rfl) (by kernel_rfl) ?_
                    repeat (go_big_quiet_step (fail))
                    refine wpQuiet_nil ?_
                    intro Y6 hY6
                    replace hY6 := below_class hY6
                    replace ct_12_0 := Hct_12_0.out
                    clear Hct_12_0
                    replace ct_12_1 := Hct_12_1.out
                    clear Hct_12_1
                    replace ct_12_2 := Hct_12_2.out
                    clear Hct_12_2
                    replace ct_12_3 := Hct_12_3.out
                    clear Hct_12_3
                    replace ct_12_4 := Hct_12_4.out
                    clear Hct_12_4
                    replace ct_23_0 := Hct_23_0.out
                    clear Hct_23_0
                    replace ct_23_1 := Hct_23_1.out
                    clear Hct_23_1
                    replace ct_23_2 := Hct_23_2.out
                    clear Hct_23_2
                    replace ct_23_3 := Hct_23_3.out
                    clear Hct_23_3
                    replace ct_23_4 := Hct_23_4.out
                    clear Hct_23_4
                    have HBY6 := Lib.hid (Below.step HBY4.out hY6)
                    replace ct_12_0 := cell_below hY6 ct_12_0
                    replace ct_12_1 := cell_below hY6 ct_12_1
                    replace ct_12_2 := cell_below hY6 ct_12_2
                    replace ct_12_3 := cell_below hY6 ct_12_3
                    replace ct_12_4 := cell_below hY6 ct_12_4
                    replace ct_23_0 := cell_below hY6 ct_23_0
                    replace ct_23_1 := cell_below hY6 ct_23_1
                    replace ct_23_2 := cell_below hY6 ct_23_2
                    replace ct_23_3 := cell_below hY6 ct_23_3
                    replace ct_23_4 := cell_below hY6 ct_23_4
                    clear hY6
                    replace H := ite_f H
                    replace H := let_hid H
                    obtain ⟨t_81, ht_81, H⟩ := H
                    replace H := app_hid H
                    go_wp2_with fail
                    go_roundg m0
                    case measure => omega
                    case rel => exact ⟨_, rfl, H, HBY6⟩
                  | true =>
                    replace H := ite_t H
                    replace H := let_hid H
                    obtain ⟨t_68, ht_68, H⟩ := H
                    obtain rfl := ht_22.symm.trans ht_68
                    replace H := idx_hid H
                    obtain ⟨nt_69, yt_69, et_69, lt_69, gt_69, H⟩ := H
                    obtain rfl : nt_23 = nt_69 := by omega
                    clear et_69
                    obtain rfl := Option.some.inj (gt_23.out.symm.trans gt_69.out)
                    clear gt_69 lt_69
                    replace H := unRate_hid H
                    replace H := idx_hid H
                    obtain ⟨nt_74, yt_74, et_74, lt_74, gt_74, H⟩ := H
                    obtain rfl : nt_12 = nt_74 := by omega
                    clear et_74
                    obtain rfl := Option.some.inj (gt_12.out.symm.trans gt_74.out)
                    clear gt_74 lt_74
                    replace H := unRate_hid H
                    replace H := let_hid H
                    obtain ⟨t_77, ht_77, H⟩ := H
                    replace H := app_hid H
                    refine wp_region_quiet_below (by kernel_rfl) (by kernel_rfl) ?_
                    repeat (go_big_quiet_step (fail))
                    refine wpQuiet_nil ?_
                    intro Y6 hY6
                    replace hY6 := below_class hY6
                    replace ct_12_0 := Hct_12_0.out
                    clear Hct_12_0
                    replace ct_12_1 := Hct_12_1.out
                    clear Hct_12_1
                    replace ct_12_2 := Hct_12_2.out
                    clear Hct_12_2
                    replace ct_12_3 := Hct_12_3.out
                    clear Hct_12_3
                    replace ct_12_4 := Hct_12_4.out
                    clear Hct_12_4
                    replace ct_23_0 := Hct_23_0.out
                    clear Hct_23_0
                    replace ct_23_1 := Hct_23_1.out
                    clear Hct_23_1
                    replace ct_23_2 := Hct_23_2.out
                    clear Hct_23_2
                    replace ct_23_3 := Hct_23_3.out
                    clear Hct_23_3
                    replace ct_23_4 := Hct_23_4.out
                    clear Hct_23_4
                    have HBY6 := Lib.hid (Below.step HBY4.out hY6)
                    replace ct_12_0 := cell_below hY6 ct_12_0
                    replace ct_12_1 := cell_below hY6 ct_12_1
                    replace ct_12_2 := cell_below hY6 ct_12_2
                    replace ct_12_3 := cell_below hY6 ct_12_3
                    replace ct_12_4 := cell_below hY6 ct_12_4
                    replace ct_23_0 := cell_below hY6 ct_23_0
                    replace ct_23_1 := cell_below hY6 ct_23_1
                    replace ct_23_2 := cell_below hY6 ct_23_2
                    replace ct_23_3 := cell_below hY6 ct_23_3
                    replace ct_23_4 := cell_below hY6 ct_23_4
                    clear hY6
                    cases t_77 with
                    | false =>
                      replace H := ite_f H
                      replace H := let_hid H
                      obtain ⟨t_81, ht_81, H⟩ := H
                      replace H := app_hid H
                      go_wp2_with fail
                      go_roundg m0
                      case measure => omega
                      case rel => exact ⟨_, rfl, H, HBY6⟩
                    | true =>
                      replace H := ite_t H
                      obtain rfl := ret_hid H
                      go_wp2_with fail
                      go_ret
                      exact ⟨rfl, HBY6.out⟩
              | true =>
                replace H := ite_t H
                obtain rfl := ret_hid H
                go_wp2_with fail
                go_ret
                exact ⟨rfl, HBY4.out⟩
end Go.Proofs.YtlljmgphgmklcaaDoor.GsL8Good

/- loop.example/g01062/spec.l8For as a plain function, and the contract of the program's: where the plain one has an answer, the program has it. Conditions: slices read as lists. -/
namespace Go.Proofs.YtlljmgphgmklcaaDoor.GsL8For
set_option linter.unusedVariables false
set_option linter.unusedSimpArgs false
open Go.RowKit
open Go.Proofs.YtlljmgphgmklcaaDoor.Rowed Go.Proofs.YtlljmgphgmklcaaDoor.Turn Go.Proofs.YtlljmgphgmklcaaDoor.Aid Go.Proofs.YtlljmgphgmklcaaDoor.GoP Go.Proofs.YtlljmgphgmklcaaDoor.GoM

def l0 (list : (List Go.Proofs.YtlljmgphgmklcaaDoor.PRate.Rate)) (day : Int) (zone : Int) (grams : Int) (k0 : Nat) (s : Unit) (nx0 bk0 : Unit → Option (Int)) : Option (Int) :=
  
  Option.bind (idx list (k0 : Int)) fun (yt_8 : Go.Proofs.YtlljmgphgmklcaaDoor.PRate.Rate) =>
  unRate yt_8 fun (t_8_zone : Int) (t_8_grams : Int) (t_8_from_ : Int) (t_8_until_ : Int) (t_8_cents : Int) =>
  letK (t_8_zone == zone) fun (t_15 : Bool) =>
  joinK (fun (t_21 : Bool) =>
  joinK (fun (t_29 : Bool) =>
  iteK t_29
  (some t_8_cents)
  (appK nx0 ())) fun jt_29 => iteK t_21 (Option.bind (Go.Proofs.YtlljmgphgmklcaaDoor.GsL1In.P day t_8_from_ t_8_until_) fun (t_28 : Bool) =>
  appK jt_29 t_28) (appK jt_29 false)) fun jt_21 => iteK t_15 (letK (decide (grams ≤ t_8_grams)) fun (t_20 : Bool) =>
  appK jt_21 t_20) (appK jt_21 false)

def e0  (s : Unit) : Option (Int) :=
  
  some 0

def P (list : (List Go.Proofs.YtlljmgphgmklcaaDoor.PRate.Rate)) (day : Int) (zone : Int) (grams : Int) : Option (Int) :=
  cntK (l0 list day zone grams) (list.length) 0 () (e0 )

set_option maxRecDepth 100000 in
set_option maxHeartbeats 2000000 in
theorem C (list : (List Go.Proofs.YtlljmgphgmklcaaDoor.PRate.Rate)) (day : Int) (zone : Int) (grams : Int) (A0 : Option Addr) (c0 : Nat)  (w : World) (M0 : Hid (Cells w 5 A0 list.length (Go.Proofs.YtlljmgphgmklcaaDoor.PRate.flat list))) (N0 : Hid (list.length ≤ 9223372036854775807))  {r : Int} (H : Hid (P list day zone grams = some r)) :
    Calls Tryd.prog 29 #[.slice A0 list.length c0, .int .i64 day, .int .i64 zone, .int .i64 grams] w (Gives (.int .i64 r) w) := by
  have HB := Lib.hid (Below.refl w.heap.size w)
  unfold P at H
  have N0o := N0.out
  go_enter Tryd.func29, Tryd.ntmps29
  go_wp2_with fail
  go_loopg [9] (list.length) (fun m_ v9_ wr => ∃ (k0 : Nat) , k0 + m_ = list.length ∧ v9_ = .int .i64 (k0 : Int) ∧ Hid (cntK (l0 list day zone grams) m_ k0 () (e0 ) = some r) ∧ Hid (Below w.heap.size w wr))
  case atStart => exact ⟨0, by omega, rfl, H, HB⟩
  case round =>
    obtain ⟨k0, hkm0, rfl, H, HBwr0⟩ := hrel
    rename World => wr0
    cases gk with
    | zero =>
      obtain rfl : k0 = list.length := by omega
      have hc0 : decide (((list.length : Nat) : Int) < ((list.length : Nat) : Int)) = false := by simp
      replace H := cnt_zero H
      unfold e0 at H
      obtain rfl := ret_hid H
      go_wp2_with fail
      go_ret
      exact ⟨rfl, HBwr0.out⟩
    | succ m0 =>
      have hlt0 : k0 < list.length := by omega
      have hc0 : decide ((k0 : Int) < ((list.length : Nat) : Int)) = true := by simp; omega
      replace H := cnt_succ H
      unfold l0 at H
      replace H := idx_hid H
      obtain ⟨nt_8, yt_8, et_8, lt_8, gt_8, H⟩ := H
      obtain rfl : k0 = nt_8 := by omega
      clear et_8
      obtain ⟨t_8_zone, t_8_grams, t_8_from_, t_8_until_, t_8_cents⟩ := yt_8
      replace H := unRate_hid H
      obtain ⟨ab_t_8, ao_t_8, zt_8, At_8, z_t_8, ct_8_0, ct_8_1, ct_8_2, ct_8_3, ct_8_4⟩ := Go.Proofs.YtlljmgphgmklcaaDoor.ORate.at_ M0.out lt_8
      obtain rfl := Option.some.inj (gt_8.out.symm.trans z_t_8)
      subst At_8
      have ltt_8 := cell_lt ct_8_0
      replace ct_8_0 := cell_below HBwr0.out ct_8_0
      replace ct_8_1 := cell_below HBwr0.out ct_8_1
      replace ct_8_2 := cell_below HBwr0.out ct_8_2
      replace ct_8_3 := cell_below HBwr0.out ct_8_3
      replace ct_8_4 := cell_below HBwr0.out ct_8_4
      clear z_t_8
      have b0t_8 : (0 : Int) ≤ (k0 : Int) := by omega
      have b1t_8 : (k0 : Int) < ((list.length : Nat) : Int) := by omega
      have b2t_8 : ((k0 : Int)).toNat = k0 := by omega
      obtain ⟨w_r_10, hw_r_10⟩ : ∃ x, wr0.alloc (.cells #[.int .i64 t_8_zone, .int .i64 t_8_grams, .int .i64 t_8_from_, .int .i64 t_8_until_, .int .i64 t_8_cents] 38) = x := ⟨_, rfl⟩
      have bw_r_10 : Below wr0.heap.size wr0 w_r_10 := by rw [← hw_r_10]; exact (Below.refl _ _).alloc (Nat.le_refl _) _
      have HBw_r_10 := Lib.hid (Below.step HBwr0.out bw_r_10)
      have ct_8_0__174 := cell_below bw_r_10 ct_8_0
      have ct_8_1__175 := cell_below bw_r_10 ct_8_1
      have ct_8_2__176 := cell_below bw_r_10 ct_8_2
      have ct_8_3__177 := cell_below bw_r_10 ct_8_3
      have ct_8_4__178 := cell_below bw_r_10 ct_8_4
      clear bw_r_10
      have kr_10_0 : w_r_10.cell? ⟨wr0.heap.size, 0, none⟩ = some (.int .i64 t_8_zone) := by rw [← hw_r_10]; exact box_new _ _ _ 0 _ rfl
      have kr_10_1 : w_r_10.cell? ⟨wr0.heap.size, 1, none⟩ = some (.int .i64 t_8_grams) := by rw [← hw_r_10]; exact box_new _ _ _ 1 _ rfl
      have kr_10_2 : w_r_10.cell? ⟨wr0.heap.size, 2, none⟩ = some (.int .i64 t_8_from_) := by rw [← hw_r_10]; exact box_new _ _ _ 2 _ rfl
      have kr_10_3 : w_r_10.cell? ⟨wr0.heap.size, 3, none⟩ = some (.int .i64 t_8_until_) := by rw [← hw_r_10]; exact box_new _ _ _ 3 _ rfl
      have kr_10_4 : w_r_10.cell? ⟨wr0.heap.size, 4, none⟩ = some (.int .i64 t_8_cents) := by rw [← hw_r_10]; exact box_new _ _ _ 4 _ rfl
      replace H := let_hid H
      obtain ⟨t_15, ht_15, H⟩ := H
      replace H := join_hid H
      cases t_15 with
      | false =>
        replace H := ite_f H
        replace H := app_hid H
        replace H := join_hid H
        replace H := ite_f H
        replace H := app_hid H
        replace H := ite_f H
        replace H := app_hid H
        go_wp2_with fail
        clear ct_8_0 ct_8_1 ct_8_2 ct_8_3 ct_8_4
        go_roundg m0
        case measure => omega
        case rel => exact ⟨k0 + 1, by omega, by go_num, H, HBw_r_10⟩
      | true =>
        replace H := ite_t H
        replace H := let_hid H
        obtain ⟨t_20, ht_20, H⟩ := H
        replace H := app_hid H
        replace H := join_hid H
        cases t_20 with
        | false =>
          replace H := ite_f H
          replace H := app_hid H
          replace H := ite_f H
          replace H := app_hid H
          go_wp2_with fail
          clear ct_8_0 ct_8_1 ct_8_2 ct_8_3 ct_8_4
          go_roundg m0
          case measure => omega
          case rel => exact ⟨k0 + 1, by omega, by go_num, H, HBw_r_10⟩
        | true =>
          replace H := ite_t H
          replace H := bind_hid H
          obtain ⟨t_28, qt_28, H⟩ := H
          go_wp2_with fail
          clear ct_8_0 ct_8_1 ct_8_2 ct_8_3 ct_8_4
          go_at_call 48
          refine (Go.Proofs.YtlljmgphgmklcaaDoor.GsL1In.C (day) (t_8_from_) (t_8_until_)  _    qt_28).mono ?_
          rintro e_t_28 wt_28 ⟨rfl, bt_28⟩
          have HBwt_28 := Lib.hid (Below.step HBw_r_10.out bt_28)
          replace ct_8_0__174 := cell_below bt_28 ct_8_0__174
          replace ct_8_1__175 := cell_below bt_28 ct_8_1__175
          replace ct_8_2__176 := cell_below bt_28 ct_8_2__176
          replace ct_8_3__177 := cell_below bt_28 ct_8_3__177
          replace ct_8_4__178 := cell_below bt_28 ct_8_4__178
          replace kr_10_0 := cell_below bt_28 kr_10_0
          replace kr_10_1 := cell_below bt_28 kr_10_1
          replace kr_10_2 := cell_below bt_28 kr_10_2
          replace kr_10_3 := cell_below bt_28 kr_10_3
          replace kr_10_4 := cell_below bt_28 kr_10_4
          clear bt_28
          replace H := app_hid H
          cases t_28 with
          | false =>
            replace H := ite_f H
            replace H := app_hid H
            go_wp2_with fail
            go_roundg m0
            case measure => omega
            case rel => exact ⟨k0 + 1, by omega, by go_num, H, HBwt_28⟩
          | true =>
            replace H := ite_t H
            obtain rfl := ret_hid H
            go_wp2_with fail
            go_ret
            exact ⟨rfl, HBwt_28.out⟩
end Go.Proofs.YtlljmgphgmklcaaDoor.GsL8For

/- loop.example/g01062/spec.RateSpans as a plain function, and the contract of the program's: where the plain one has an answer, the program has it. Conditions: slices read as lists. -/
namespace Go.Proofs.YtlljmgphgmklcaaDoor.GsRateSpans
set_option linter.unusedVariables false
set_option linter.unusedSimpArgs false
open Go.RowKit
open Go.Proofs.YtlljmgphgmklcaaDoor.Rowed Go.Proofs.YtlljmgphgmklcaaDoor.Turn Go.Proofs.YtlljmgphgmklcaaDoor.Aid Go.Proofs.YtlljmgphgmklcaaDoor.GoP Go.Proofs.YtlljmgphgmklcaaDoor.GoM

def l0 (list : (List Go.Proofs.YtlljmgphgmklcaaDoor.PRate.Rate)) (zone : Int) (grams : Int) (s : (List Go.Proofs.YtlljmgphgmklcaaDoor.PIntA3.IntA3) × Int × Int) (nx0 bk0 : (List Go.Proofs.YtlljmgphgmklcaaDoor.PIntA3.IntA3) × Int × Int → Option ((List Go.Proofs.YtlljmgphgmklcaaDoor.PIntA3.IntA3) × Bool)) : Option ((List Go.Proofs.YtlljmgphgmklcaaDoor.PIntA3.IntA3) × Bool) :=
  unp3 s fun out_8l0 last_9l0 day_10l0 =>
  letK (decide (day_10l0 ≤ 4000)) fun (t_23 : Bool) =>
  iteK t_23
  (Option.bind (Go.Proofs.YtlljmgphgmklcaaDoor.GsL8For.P list day_10l0 zone grams) fun (t_28 : Int) =>
  letK (decide (0 < t_28)) fun (t_31 : Bool) =>
  joinK (fun (t_36 : Bool) =>
  iteK t_36
  (letK (IntKind.i64.wrap ((out_8l0.length : Int) - 1)) fun (t_40 : Int) =>
  Option.bind (idx out_8l0 t_40) fun (yt_46 : Go.Proofs.YtlljmgphgmklcaaDoor.PIntA3.IntA3) =>
  unIntA3 yt_46 fun (t_46_x0 : Int) (t_46_x1 : Int) (t_46_x2 : Int) =>
  Option.bind (idx out_8l0 t_40) fun (yt_52 : Go.Proofs.YtlljmgphgmklcaaDoor.PIntA3.IntA3) =>
  unIntA3 yt_52 fun (t_52_x0 : Int) (t_52_x1 : Int) (t_52_x2 : Int) =>
  letK (out_8l0.set (t_40).toNat (Go.Proofs.YtlljmgphgmklcaaDoor.PIntA3.IntA3.mk t_46_x0 day_10l0 t_28)) fun (l53_53 : (List Go.Proofs.YtlljmgphgmklcaaDoor.PIntA3.IntA3)) =>
  letK (IntKind.i64.wrap (day_10l0 + 1)) fun (t_68 : Int) =>
  appK nx0 (l53_53, t_28, t_68))
  (letK (decide (0 < t_28)) fun (t_55 : Bool) =>
  iteK t_55
  (guardK (out_8l0.length ≤ 1099511627776) <|
  letK (out_8l0 ++ [(Go.Proofs.YtlljmgphgmklcaaDoor.PIntA3.IntA3.mk day_10l0 day_10l0 t_28)]) fun (t_63 : (List Go.Proofs.YtlljmgphgmklcaaDoor.PIntA3.IntA3)) =>
  letK (IntKind.i64.wrap (day_10l0 + 1)) fun (t_68 : Int) =>
  appK nx0 (t_63, t_28, t_68))
  (letK (IntKind.i64.wrap (day_10l0 + 1)) fun (t_68 : Int) =>
  appK nx0 (out_8l0, t_28, t_68)))) fun jt_36 => iteK t_31 (letK (t_28 == last_9l0) fun (t_35 : Bool) =>
  appK jt_36 t_35) (appK jt_36 false))
  (appK bk0 (out_8l0, last_9l0, day_10l0))

def e0  (s : (List Go.Proofs.YtlljmgphgmklcaaDoor.PIntA3.IntA3) × Int × Int) : Option ((List Go.Proofs.YtlljmgphgmklcaaDoor.PIntA3.IntA3) × Bool) :=
  unp3 s fun out_8l0 last_9l0 day_10l0 =>
  some (out_8l0, true)

def P (fuel : Nat) (list : (List Go.Proofs.YtlljmgphgmklcaaDoor.PRate.Rate)) (zone : Int) (grams : Int) : Option ((List Go.Proofs.YtlljmgphgmklcaaDoor.PIntA3.IntA3) × Bool) :=
  Option.bind (Go.Proofs.YtlljmgphgmklcaaDoor.GsL8Good.P fuel list) fun (t_5 : Bool) =>
  letK (!t_5) fun (t_6 : Bool) =>
  joinK (fun (t_11 : Bool) =>
  joinK (fun (t_16 : Bool) =>
  iteK t_16
  (some (([] : List Go.Proofs.YtlljmgphgmklcaaDoor.PIntA3.IntA3), false))
  (loopK (l0 list zone grams) fuel (([] : List Go.Proofs.YtlljmgphgmklcaaDoor.PIntA3.IntA3), 0, 0) (e0 ))) fun jt_16 => iteK t_11 (appK jt_16 true) (Option.bind (Go.Proofs.YtlljmgphgmklcaaDoor.GsL8Grams.P grams) fun (t_14 : Bool) =>
  letK (!t_14) fun (t_15 : Bool) =>
  appK jt_16 t_15)) fun jt_11 => iteK t_6 (appK jt_11 true) (Option.bind (Go.Proofs.YtlljmgphgmklcaaDoor.GsL8Zone.P zone) fun (t_9 : Bool) =>
  letK (!t_9) fun (t_10 : Bool) =>
  appK jt_11 t_10)

set_option maxRecDepth 100000 in
set_option maxHeartbeats 2000000 in
theorem C (fuel : Nat) (list : (List Go.Proofs.YtlljmgphgmklcaaDoor.PRate.Rate)) (zone : Int) (grams : Int) (A0 : Option Addr) (c0 : Nat)  (w : World) (M0 : Hid (Cells w 5 A0 list.length (Go.Proofs.YtlljmgphgmklcaaDoor.PRate.flat list))) (N0 : Hid (list.length ≤ 9223372036854775807))  {r0 : (List Go.Proofs.YtlljmgphgmklcaaDoor.PIntA3.IntA3)} {r1 : Bool} (H : Hid (P fuel list zone grams = some (r0, r1))) :
    Calls Tryd.prog 7 #[.slice A0 list.length c0, .int .i64 zone, .int .i64 grams] w (fun e w' => ∃ A_r0 c_r0, e = .returned (.tuple #[.slice A_r0 r0.length c_r0, .bool r1]) ∧ w'.ownsRow w.heap.size 34 3 (.slice A_r0 r0.length c_r0) r0.length (Go.Proofs.YtlljmgphgmklcaaDoor.PIntA3.flat r0) ∧ Below w.heap.size w w') := by
  have HB := Lib.hid (Below.refl w.heap.size w)
  unfold P at H
  have N0o := N0.out
  obtain ⟨i0_34, hi_34, hz0_34, hz1_34, hz2_34⟩ := Aid.info_parts (P := Tryd.prog) (T := 34) (z := .agg #[.int .i64 0, .int .i64 0, .int .i64 0]) (s := 3) (b := 24) (by kernel_rfl)
  go_enter Tryd.func7, Tryd.ntmps7
  obtain ⟨w_t_2, hw_t_2⟩ : ∃ x, w.alloc (.cells #[] 34) = x := ⟨_, rfl⟩
  have bw_t_2 : Below w.heap.size w w_t_2 := by rw [← hw_t_2]; exact (Below.refl _ _).alloc (Nat.le_refl _) _
  have Ot_2 : Hid (w_t_2.ownsRow w.heap.size 34 3 (.slice (some ⟨w.heap.size, 0, none⟩) 0 0) 0 []) := Lib.hid (by rw [← hw_t_2]; exact own_empty HB.out.size)
  have HBw_t_2 := Lib.hid (Below.step HB.out bw_t_2)
  clear bw_t_2
  replace H := bind_hid H
  obtain ⟨t_5, qt_5, H⟩ := H
  go_wp2_with fail
  go_at_call 26
  refine (Go.Proofs.YtlljmgphgmklcaaDoor.GsL8Good.C fuel (list) A0 c0 _   (Lib.hid (Cells.below M0.out HBw_t_2.out)) N0 qt_5).mono ?_
  rintro e_t_5 wt_5 ⟨rfl, bt_5⟩
  have HBwt_5 := Lib.hid (Below.step HBw_t_2.out bt_5)
  replace Ot_2 := Lib.hid (own_below Ot_2.out bt_5)
  clear bt_5
  cases t_5 with
  | false =>
    replace H := let_hid H
    obtain ⟨t_6, ht_6, H⟩ := H
    obtain rfl : t_6 = true := ht_6.symm
    replace H := join_hid H
    replace H := ite_t H
    replace H := app_hid H
    replace H := join_hid H
    replace H := ite_t H
    replace H := app_hid H
    replace H := ite_t H
    cases ret_hid H
    go_wp2_with fail
    go_ret2
    exact ⟨(some ⟨w.heap.size, 0, none⟩), 0, rfl, Ot_2.out, HBwt_5.out⟩
  | true =>
    replace H := let_hid H
    obtain ⟨t_6, ht_6, H⟩ := H
    obtain rfl : t_6 = false := ht_6.symm
    replace H := join_hid H
    replace H := ite_f H
    replace H := bind_hid H
    obtain ⟨t_9, qt_9, H⟩ := H
    go_wp2_with fail
    go_at_call 27
    refine (Go.Proofs.YtlljmgphgmklcaaDoor.GsL8Zone.C (zone)  _    qt_9).mono ?_
    rintro e_t_9 wt_9 ⟨rfl, bt_9⟩
    have HBwt_9 := Lib.hid (Below.step HBwt_5.out bt_9)
    replace Ot_2 := Lib.hid (own_below Ot_2.out bt_9)
    clear bt_9
    cases t_9 with
    | false =>
      replace H := let_hid H
      obtain ⟨t_10, ht_10, H⟩ := H
      obtain rfl : t_10 = true := ht_10.symm
      replace H := app_hid H
      replace H := join_hid H
      replace H := ite_t H
      replace H := app_hid H
      replace H := ite_t H
      cases ret_hid H
      go_wp2_with fail
      go_ret2
      exact ⟨(some ⟨w.heap.size, 0, none⟩), 0, rfl, Ot_2.out, HBwt_9.out⟩
    | true =>
      replace H := let_hid H
      obtain ⟨t_10, ht_10, H⟩ := H
      obtain rfl : t_10 = false := ht_10.symm
      replace H := app_hid H
      replace H := join_hid H
      replace H := ite_f H
      replace H := bind_hid H
      obtain ⟨t_14, qt_14, H⟩ := H
      go_wp2_with fail
      go_at_call 28
      refine (Go.Proofs.YtlljmgphgmklcaaDoor.GsL8Grams.C (grams)  _    qt_14).mono ?_
      rintro e_t_14 wt_14 ⟨rfl, bt_14⟩
      have HBwt_14 := Lib.hid (Below.step HBwt_9.out bt_14)
      replace Ot_2 := Lib.hid (own_below Ot_2.out bt_14)
      clear bt_14
      cases t_14 with
      | false =>
        replace H := let_hid H
        obtain ⟨t_15, ht_15, H⟩ := H
        obtain rfl : t_15 = true := ht_15.symm
        replace H := app_hid H
        replace H := ite_t H
        cases ret_hid H
        go_wp2_with fail
        go_ret2
        exact ⟨(some ⟨w.heap.size, 0, none⟩), 0, rfl, Ot_2.out, HBwt_14.out⟩
      | true =>
        replace H := let_hid H
        obtain ⟨t_15, ht_15, H⟩ := H
        obtain rfl : t_15 = false := ht_15.symm
        replace H := app_hid H
        replace H := ite_f H
        go_wp2_with fail
        go_loopg [8, 9, 10] (fuel) (fun m_ v8_ v9_ v10_ wr => ∃ (out_8l0 : (List Go.Proofs.YtlljmgphgmklcaaDoor.PIntA3.IntA3)) (last_9l0 : Int) (day_10l0 : Int) (Aout_8l0 : Option Addr) (cout_8l0 : Nat), v8_ = .slice Aout_8l0 out_8l0.length cout_8l0 ∧ v9_ = .int .i64 last_9l0 ∧ v10_ = .int .i64 day_10l0 ∧ Hid (loopK (l0 list zone grams) m_ (out_8l0, last_9l0, day_10l0) (e0 ) = some (r0, r1)) ∧ Hid (Below w.heap.size w wr) ∧ Hid (wr.ownsRow w.heap.size 34 3 (.slice Aout_8l0 out_8l0.length cout_8l0) out_8l0.length (Go.Proofs.YtlljmgphgmklcaaDoor.PIntA3.flat out_8l0)))
        case atStart => exact ⟨_, _, _, _, _, rfl, rfl, rfl, H, HBwt_14, Ot_2⟩
        case round =>
          obtain ⟨out_8l0, last_9l0, day_10l0, Aout_8l0, cout_8l0, rfl, rfl, rfl, H, HBwr0, Oout_8l0⟩ := hrel
          rename World => wr0
          cases gk with
          | zero => exact (loop_zero H).elim
          | succ m0 =>
            replace H := loop_succ H
            unfold l0 at H
            replace H := unp3_hid H
            replace H := let_hid H
            obtain ⟨t_23, ht_23, H⟩ := H
            cases t_23 with
            | false =>
              replace H := ite_f H
              replace H := app_hid H
              unfold e0 at H
              replace H := unp3_hid H
              cases ret_hid H
              go_wp2_with fail
              go_ret2
              exact ⟨Aout_8l0, cout_8l0, rfl, Oout_8l0.out, HBwr0.out⟩
            | true =>
              replace H := ite_t H
              replace H := bind_hid H
              obtain ⟨t_28, qt_28, H⟩ := H
              go_wp2_with fail
              go_at_call 29
              refine (Go.Proofs.YtlljmgphgmklcaaDoor.GsL8For.C (list) (day_10l0) (zone) (grams) A0 c0 _   (Lib.hid (Cells.below M0.out HBwr0.out)) N0 qt_28).mono ?_
              rintro e_t_28 wt_28 ⟨rfl, bt_28⟩
              have HBwt_28 := Lib.hid (Below.step HBwr0.out bt_28)
              replace Oout_8l0 := Lib.hid (own_below Oout_8l0.out bt_28)
              clear bt_28
              replace H := let_hid H
              obtain ⟨t_31, ht_31, H⟩ := H
              replace H := join_hid H
              cases t_31 with
              | false =>
                replace H := ite_f H
                replace H := app_hid H
                replace H := ite_f H
                replace H := let_hid H
                obtain ⟨t_55, ht_55, H⟩ := H
                obtain rfl := ht_31.symm.trans ht_55
                replace H := ite_f H
                replace H := let_hid H
                obtain ⟨t_68, ht_68, H⟩ := H
                replace H := app_hid H
                go_wp2_with fail
                go_roundg m0
                case measure => omega
                case rel => exact ⟨_, _, _, _, _, rfl, rfl, rfl, H, HBwt_28, Oout_8l0⟩
              | true =>
                replace H := ite_t H
                replace H := let_hid H
                obtain ⟨t_35, ht_35, H⟩ := H
                replace H := app_hid H
                cases t_35 with
                | false =>
                  replace H := ite_f H
                  replace H := let_hid H
                  obtain ⟨t_55, ht_55, H⟩ := H
                  obtain rfl := ht_31.symm.trans ht_55
                  replace H := ite_t H
                  obtain ⟨w_t_62, hw_t_62⟩ : ∃ x, wt_28.alloc (.cells #[.int .i64 day_10l0, .int .i64 day_10l0, .int .i64 t_28] 34) = x := ⟨_, rfl⟩
                  have bw_t_62 : Below wt_28.heap.size wt_28 w_t_62 := by rw [← hw_t_62]; exact (Below.refl _ _).alloc (Nat.le_refl _) _
                  have HBw_t_62 := Lib.hid (Below.step HBwt_28.out bw_t_62)
                  replace Oout_8l0 := Lib.hid (own_below Oout_8l0.out bw_t_62)
                  clear bw_t_62
                  replace H := guard_hid H
                  obtain ⟨hlt_63, H⟩ := H
                  replace H := let_hid H
                  obtain ⟨t_63, ht_63, H⟩ := H
                  have hht_63 := Lib.hid ht_63
                  clear ht_63
                  have hst_63 := HBw_t_62.out.size
                  go_wp2_with (at_builtin; refine wpList_append_own_at _ rfl _ _ 27 rfl w.heap.size 34 i0_34 (.agg #[.int .i64 0, .int .i64 0, .int .i64 0]) 3 24 Tryd.underlying27 hi_34 hz0_34 hz1_34 hz2_34 rfl (by decide) _ _ _ rfl Oout_8l0.out ⟨wt_28.heap.size, 0, none⟩ 1 1 [.int .i64 day_10l0, .int .i64 day_10l0, .int .i64 t_28] rfl rfl (news_new hw_t_62) (one_cells rfl) (by unfold maxLen; omega) (by omega) hst_63 ?_; intro vt_63 wt_63 ot_63 gt_63 zt_63 yt_63; clear zt_63; obtain ⟨qt_63, ct_63, rfl, pt_63⟩ := own_push hht_63.out (Go.Proofs.YtlljmgphgmklcaaDoor.PIntA3.flat_snoc _ _) rfl ot_63; have Pt_63 := Lib.hid pt_63; have Yt_63 := Lib.hid yt_63; have Gt_63 := Lib.hid gt_63; clear ot_63 gt_63 pt_63 yt_63; refine stop_in ?_)
                  refine stop_out ?_
                  have HBwt_63 := Lib.hid (HBw_t_62.out.grown Gt_63.out hst_63 (fun q hq => (Oout_8l0.out.lt q hq).1))
                  clear hst_63
                  clear Oout_8l0 Yt_63 Gt_63
                  replace H := let_hid H
                  obtain ⟨t_68, ht_68, H⟩ := H
                  replace H := app_hid H
                  go_wp2_with fail
                  go_roundg m0
                  case measure => omega
                  case rel => exact ⟨_, _, _, _, _, rfl, rfl, rfl, H, HBwt_63, Pt_63⟩
                | true =>
                  replace H := ite_t H
                  replace H := let_hid H
                  obtain ⟨t_40, ht_40, H⟩ := H
                  try have hv_t_40 : (out_8l0.length : Int) - 1 = t_40 := by rw [← ht_40]; exact (IntWalk.i64_in _ (by omega)).symm
                  try have hv2_t_40 : IntKind.i64.wrap t_40 = t_40 := by rw [← hv_t_40]; exact IntWalk.i64_in _ (by omega)
                  replace H := idx_hid H
                  obtain ⟨nt_46, yt_46, et_46, lt_46, gt_46, H⟩ := H
                  subst et_46
                  obtain ⟨t_46_x0, t_46_x1, t_46_x2⟩ := yt_46
                  replace H := unIntA3_hid H
                  obtain ⟨qt_46, Qt_46⟩ := own_some Oout_8l0.out (by omega)
                  subst Qt_46
                  obtain ⟨ab_t_46, ao_t_46, zt_46, At_46, z_t_46, ct_46_0, ct_46_1, ct_46_2⟩ := Go.Proofs.YtlljmgphgmklcaaDoor.OIntA3.at_ (own_cells Oout_8l0.out) (k := nt_46) (by omega)
                  obtain rfl := Option.some.inj (gt_46.out.symm.trans z_t_46)
                  simp only [Option.some.injEq, Addr.mk.injEq] at At_46
                  obtain ⟨rfl, rfl, _⟩ := At_46
                  clear z_t_46
                  simp only [Nat.zero_add] at ct_46_0 ct_46_1 ct_46_2
                  have b0t_46 : (0 : Int) ≤ (nt_46 : Int) := by omega
                  have b1t_46 : (nt_46 : Int) < ((out_8l0.length : Nat) : Int) := by omega
                  have b2t_46 : ((nt_46 : Int)).toNat = nt_46 := by omega
                  replace H := idx_hid H
                  obtain ⟨nt_52, yt_52, et_52, lt_52, gt_52, H⟩ := H
                  obtain rfl : nt_46 = nt_52 := by omega
                  clear et_52
                  obtain rfl := Option.some.inj (gt_46.out.symm.trans gt_52.out)
                  clear gt_52 lt_52
                  replace H := unIntA3_hid H
                  replace H := let_hid H
                  obtain ⟨l53_53, hl53_53, H⟩ := H
                  try simp only [Int.toNat_natCast] at hl53_53
                  obtain ⟨wl53_53, hwl53_53⟩ : ∃ x, (((wt_28).setCell ⟨qt_46, nt_46 * 3, none⟩ (.int .i64 t_46_x0)).setCell ⟨qt_46, nt_46 * 3 + 1, none⟩ (.int .i64 day_10l0)).setCell ⟨qt_46, nt_46 * 3 + 2, none⟩ (.int .i64 t_28) = x := ⟨_, rfl⟩
                  have z0l53_53 := Oout_8l0.out.frozenAt (nt_46 * 3)
                  have z1l53_53 := Oout_8l0.out.frozenAt (nt_46 * 3 + 1)
                  have z2l53_53 := Oout_8l0.out.frozenAt (nt_46 * 3 + 2)
                  have Sl53_53 := Lib.hid (own_stores [(nt_46 * 3, .int .i64 t_46_x0), (nt_46 * 3 + 1, .int .i64 day_10l0), (nt_46 * 3 + 2, .int .i64 t_28)] Oout_8l0.out)
                  have nl53_53 : Hid (l53_53.length = out_8l0.length) := Lib.hid (by rw [← hl53_53, List.length_set])
                  have Pl53_53 : Hid (wl53_53.ownsRow w.heap.size 34 3 (.slice (some ⟨qt_46, 0, none⟩) out_8l0.length cout_8l0) out_8l0.length (Go.Proofs.YtlljmgphgmklcaaDoor.PIntA3.flat l53_53)) := Lib.hid (by have es_ := set_self gt_46.out; have e0_ := flat_set Go.Proofs.YtlljmgphgmklcaaDoor.PIntA3.IntA3.cells 3 (fun _ => rfl) out_8l0 (nt_46) 0 (Go.Proofs.YtlljmgphgmklcaaDoor.PIntA3.IntA3.mk t_46_x0 t_46_x1 t_46_x2) (Go.Proofs.YtlljmgphgmklcaaDoor.PIntA3.IntA3.mk t_46_x0 t_46_x1 t_46_x2) (.int .i64 t_46_x0) lt_46 (by decide) rfl; have e1_ := flat_set Go.Proofs.YtlljmgphgmklcaaDoor.PIntA3.IntA3.cells 3 (fun _ => rfl) out_8l0 (nt_46) 1 (Go.Proofs.YtlljmgphgmklcaaDoor.PIntA3.IntA3.mk t_46_x0 t_46_x1 t_46_x2) (Go.Proofs.YtlljmgphgmklcaaDoor.PIntA3.IntA3.mk t_46_x0 day_10l0 t_46_x2) (.int .i64 day_10l0) lt_46 (by decide) rfl; have e2_ := flat_set Go.Proofs.YtlljmgphgmklcaaDoor.PIntA3.IntA3.cells 3 (fun _ => rfl) out_8l0 (nt_46) 2 (Go.Proofs.YtlljmgphgmklcaaDoor.PIntA3.IntA3.mk t_46_x0 day_10l0 t_46_x2) (Go.Proofs.YtlljmgphgmklcaaDoor.PIntA3.IntA3.mk t_46_x0 day_10l0 t_28) (.int .i64 t_28) lt_46 (by decide) rfl; rw [es_] at e0_; have e_ : ([(nt_46 * 3, .int .i64 t_46_x0), (nt_46 * 3 + 1, .int .i64 day_10l0), (nt_46 * 3 + 2, .int .i64 t_28)] : List (Nat × Value)).foldl (fun xs p => xs.set p.1 p.2) (Go.Proofs.YtlljmgphgmklcaaDoor.PIntA3.flat out_8l0) = (Go.Proofs.YtlljmgphgmklcaaDoor.PIntA3.flat l53_53) := (by rw [← hl53_53]; show _ = List.flatMap Go.Proofs.YtlljmgphgmklcaaDoor.PIntA3.IntA3.cells _; first | (rw [← e2_, ← e1_, ← e0_]; first | done | rfl) | (rw [← e2_, ← e1_, es_, ← e0_]; first | done | rfl)); rw [← hwl53_53, ← e_]; exact Sl53_53.out.1)
                  have Gl53_53 : Hid (wt_28.grownBy wl53_53 (Value.slice (some ⟨qt_46, 0, none⟩) out_8l0.length cout_8l0).ownBlock) := Lib.hid (by rw [← hwl53_53]; exact Sl53_53.out.2)
                  have HBwl53_53 := Lib.hid (HBwt_28.out.grown Gl53_53.out HBwt_28.out.size (fun q hq => (Oout_8l0.out.lt q hq).1))
                  have hhl53_53 := Lib.hid hl53_53
                  clear hl53_53 Sl53_53
                  clear Oout_8l0 Gl53_53
                  replace H := let_hid H
                  obtain ⟨t_68, ht_68, H⟩ := H
                  replace H := app_hid H
                  go_wp2_with fail
                  clear z0l53_53 z1l53_53 z2l53_53 ct_46_0 ct_46_1 ct_46_2
                  have hc_ := nl53_53.out
                  have hv_ : (Value.slice (some ⟨qt_46, 0, none⟩) out_8l0.length cout_8l0 : Value) = Value.slice (some ⟨qt_46, 0, none⟩) l53_53.length cout_8l0 := by rw [hc_]
                  try rw [hv_]
                  replace Pl53_53 := Lib.hid (own_len hc_ Pl53_53.out)
                  clear hc_ hv_
                  go_wp2_with fail
                  go_roundg m0
                  case measure => omega
                  case rel => exact ⟨_, _, _, _, _, rfl, rfl, rfl, H, HBwl53_53, Pl53_53⟩
end Go.Proofs.YtlljmgphgmklcaaDoor.GsRateSpans

/- loop.example/g01062/laws.vTriples as a plain function, and the contract of the program's: where the plain one has an answer, the program has it. Conditions: slices read as lists. -/
namespace Go.Proofs.YtlljmgphgmklcaaDoor.GlVTriples
set_option linter.unusedVariables false
set_option linter.unusedSimpArgs false
open Go.RowKit
open Go.Proofs.YtlljmgphgmklcaaDoor.Rowed Go.Proofs.YtlljmgphgmklcaaDoor.Turn Go.Proofs.YtlljmgphgmklcaaDoor.Aid Go.Proofs.YtlljmgphgmklcaaDoor.GoP Go.Proofs.YtlljmgphgmklcaaDoor.GoM

def l0 (a : (List Go.Proofs.YtlljmgphgmklcaaDoor.PIntA3.IntA3)) (b : (List Go.Proofs.YtlljmgphgmklcaaDoor.PIntA3.IntA3)) (k0 : Nat) (s : Unit) (nx0 bk0 : Unit → Option (Bool)) : Option (Bool) :=
  
  Option.bind (idx a (k0 : Int)) fun (yt_14 : Go.Proofs.YtlljmgphgmklcaaDoor.PIntA3.IntA3) =>
  unIntA3 yt_14 fun (t_14_x0 : Int) (t_14_x1 : Int) (t_14_x2 : Int) =>
  Option.bind (idx b (k0 : Int)) fun (yt_18 : Go.Proofs.YtlljmgphgmklcaaDoor.PIntA3.IntA3) =>
  unIntA3 yt_18 fun (t_18_x0 : Int) (t_18_x1 : Int) (t_18_x2 : Int) =>
  letK (!(t_14_x0 == t_18_x0 && t_14_x1 == t_18_x1 && t_14_x2 == t_18_x2)) fun (t_20 : Bool) =>
  iteK t_20
  (some false)
  (appK nx0 ())

def e0  (s : Unit) : Option (Bool) :=
  
  some true

def P (a : (List Go.Proofs.YtlljmgphgmklcaaDoor.PIntA3.IntA3)) (b : (List Go.Proofs.YtlljmgphgmklcaaDoor.PIntA3.IntA3)) : Option (Bool) :=
  letK ((a.length : Int) != (b.length : Int)) fun (t_5 : Bool) =>
  iteK t_5
  (some false)
  (cntK (l0 a b) (a.length) 0 () (e0 ))

set_option maxRecDepth 100000
theorem eqr_34 (x0 x1 x2 y0 y1 y2 : Int) : ∀ W, (Op.equalIn 10000 34 (.agg #[Value.int IntKind.i64 x0, Value.int IntKind.i64 x1, Value.int IntKind.i64 x2]) (.agg #[Value.int IntKind.i64 y0, Value.int IntKind.i64 y1, Value.int IntKind.i64 y2])).run Tryd.prog W = .ok (x0 == y0 && x1 == y1 && x2 == y2) W := by
  intro W
  obtain ⟨i0, hi, hz0, hz1, hz2⟩ := Aid.info_parts (P := Tryd.prog) (T := 3) (z := .int .i64 0) (s := 1) (b := 8) (by kernel_rfl)
  rw [run_equalIn_array W 9999 (n := 3) #[Value.int IntKind.i64 x0, Value.int IntKind.i64 x1, Value.int IntKind.i64 x2] #[Value.int IntKind.i64 y0, Value.int IntKind.i64 y1, Value.int IntKind.i64 y2] (by kernel_rfl) hi, show Tryd.prog.cellsOf 3 = 1 by kernel_rfl, show List.range 3 = [0, 1, 2] from rfl]
  simp only [Op.eqItems, show 0 * 1 = 0 from rfl, show 1 * 1 = 1 from rfl, show 2 * 1 = 2 from rfl]
  have p0 : ∀ (w : World) (x0 x1 x2 : Int), (part 3 #[Value.int IntKind.i64 x0, Value.int IntKind.i64 x1, Value.int IntKind.i64 x2] 0).run Tryd.prog w = .ok (.int .i64 x0) w := fun w x0 x1 x2 => run_part_plain w (by kernel_rfl) rfl
  have p1 : ∀ (w : World) (x0 x1 x2 : Int), (part 3 #[Value.int IntKind.i64 x0, Value.int IntKind.i64 x1, Value.int IntKind.i64 x2] 1).run Tryd.prog w = .ok (.int .i64 x1) w := fun w x0 x1 x2 => run_part_plain w (by kernel_rfl) rfl
  have p2 : ∀ (w : World) (x0 x1 x2 : Int), (part 3 #[Value.int IntKind.i64 x0, Value.int IntKind.i64 x1, Value.int IntKind.i64 x2] 2).run Tryd.prog w = .ok (.int .i64 x2) w := fun w x0 x1 x2 => run_part_plain w (by kernel_rfl) rfl
  have e0 : ∀ (w : World) (d : Nat) (x y : Int), (Op.equalIn (d + 1) 3 (.int .i64 x) (.int .i64 y)).run Tryd.prog w = .ok (x == y) w := fun w d x y => run_equalIn_int w d 3 .i64 .i64 x y Tryd.underlying3
  have e1 : ∀ (w : World) (x y : Int), (Op.equalIn 9999 3 (.int .i64 x) (.int .i64 y)).run Tryd.prog w = .ok (x == y) w := fun w x y => e0 w 9998 x y
  simp only [Sem.run_bind, p0, p1, p2, e1, Result.andThen_ok, Sem.run_ite, Sem.run_pure]
  cases x0 == y0 <;> cases x1 == y1 <;> cases x2 == y2 <;> rfl
theorem eqla_34 (x0 x1 x2 y0 y1 y2 : Int) : ∀ W, (binOp .eql 34 (.agg #[Value.int IntKind.i64 x0, Value.int IntKind.i64 x1, Value.int IntKind.i64 x2]) (.agg #[Value.int IntKind.i64 y0, Value.int IntKind.i64 y1, Value.int IntKind.i64 y2])).run Tryd.prog W = .ok (.bool (x0 == y0 && x1 == y1 && x2 == y2)) W := by
  intro W
  rw [run_eql_struct, eqr_34]; rfl
theorem neqa_34 (x0 x1 x2 y0 y1 y2 : Int) : ∀ W, (binOp .neq 34 (.agg #[Value.int IntKind.i64 x0, Value.int IntKind.i64 x1, Value.int IntKind.i64 x2]) (.agg #[Value.int IntKind.i64 y0, Value.int IntKind.i64 y1, Value.int IntKind.i64 y2])).run Tryd.prog W = .ok (.bool (!(x0 == y0 && x1 == y1 && x2 == y2))) W := by
  intro W
  rw [run_neq_struct, eqr_34]; rfl

set_option maxRecDepth 100000 in
set_option maxHeartbeats 2000000 in
theorem C (a : (List Go.Proofs.YtlljmgphgmklcaaDoor.PIntA3.IntA3)) (b : (List Go.Proofs.YtlljmgphgmklcaaDoor.PIntA3.IntA3)) (A0 : Option Addr) (c0 : Nat) (A1 : Option Addr) (c1 : Nat)  (w : World) (M0 : Hid (Cells w 3 A0 a.length (Go.Proofs.YtlljmgphgmklcaaDoor.PIntA3.flat a))) (N0 : Hid (a.length ≤ 9223372036854775807)) (M1 : Hid (Cells w 3 A1 b.length (Go.Proofs.YtlljmgphgmklcaaDoor.PIntA3.flat b))) (N1 : Hid (b.length ≤ 9223372036854775807))  {r : Bool} (H : Hid (P a b = some r)) :
    Calls Tryd.prog 8 #[.slice A0 a.length c0, .slice A1 b.length c1] w (Gives (.bool r) w) := by
  have HB := Lib.hid (Below.refl w.heap.size w)
  unfold P at H
  have N0o := N0.out
  have N1o := N1.out
  go_enter Tryd.func8, Tryd.ntmps8
  replace H := let_hid H
  obtain ⟨t_5, ht_5, H⟩ := H
  cases t_5 with
  | false =>
    have Hht_5 : Hid (a.length = b.length) := Lib.hid (by have := bne_eq_false_iff_eq.1 ht_5; omega)
    have nht_5 : (a.length == b.length) = true := beq_iff_eq.2 Hht_5.out
    replace H := ite_f H
    go_wp2_with fail
    go_loopg [5] (a.length) (fun m_ v5_ wr => ∃ (k0 : Nat) , k0 + m_ = a.length ∧ v5_ = .int .i64 (k0 : Int) ∧ Hid (cntK (l0 a b) m_ k0 () (e0 ) = some r) ∧ Hid (Below w.heap.size w wr))
    case atStart => exact ⟨0, by omega, rfl, H, HB⟩
    case round =>
      obtain ⟨k0, hkm0, rfl, H, HBwr0⟩ := hrel
      rename World => wr0
      cases gk with
      | zero =>
        obtain rfl : k0 = a.length := by omega
        have hc0 : decide (((a.length : Nat) : Int) < ((a.length : Nat) : Int)) = false := by simp
        replace H := cnt_zero H
        unfold e0 at H
        obtain rfl := ret_hid H
        go_wp2_with fail
        go_ret
        exact ⟨rfl, HBwr0.out⟩
      | succ m0 =>
        have hlt0 : k0 < a.length := by omega
        have hc0 : decide ((k0 : Int) < ((a.length : Nat) : Int)) = true := by simp; omega
        replace H := cnt_succ H
        unfold l0 at H
        go_wp2_with fail
        replace H := idx_hid H
        obtain ⟨nt_14, yt_14, et_14, lt_14, gt_14, H⟩ := H
        obtain rfl : k0 = nt_14 := by omega
        clear et_14
        obtain ⟨t_14_x0, t_14_x1, t_14_x2⟩ := yt_14
        replace H := unIntA3_hid H
        obtain ⟨ab_t_14, ao_t_14, zt_14, At_14, z_t_14, ct_14_0, ct_14_1, ct_14_2⟩ := Go.Proofs.YtlljmgphgmklcaaDoor.OIntA3.at_ M0.out lt_14
        obtain rfl := Option.some.inj (gt_14.out.symm.trans z_t_14)
        subst At_14
        have ltt_14 := cell_lt ct_14_0
        replace ct_14_0 := cell_below HBwr0.out ct_14_0
        replace ct_14_1 := cell_below HBwr0.out ct_14_1
        replace ct_14_2 := cell_below HBwr0.out ct_14_2
        clear z_t_14
        have b0t_14 : (0 : Int) ≤ (k0 : Int) := by omega
        have b1t_14 : (k0 : Int) < ((a.length : Nat) : Int) := by omega
        have b2t_14 : ((k0 : Int)).toNat = k0 := by omega
        have Hct_14_0 := Lib.hid ct_14_0
        replace ct_14_0 := cell_regrown ct_14_0
        have Hct_14_1 := Lib.hid ct_14_1
        replace ct_14_1 := cell_regrown ct_14_1
        have Hct_14_2 := Lib.hid ct_14_2
        replace ct_14_2 := cell_regrown ct_14_2
        replace H := idx_hid H
        obtain ⟨nt_18, yt_18, et_18, lt_18, gt_18, H⟩ := H
        obtain rfl : k0 = nt_18 := by omega
        clear et_18
        obtain ⟨t_18_x0, t_18_x1, t_18_x2⟩ := yt_18
        replace H := unIntA3_hid H
        obtain ⟨ab_t_18, ao_t_18, zt_18, At_18, z_t_18, ct_18_0, ct_18_1, ct_18_2⟩ := Go.Proofs.YtlljmgphgmklcaaDoor.OIntA3.at_ M1.out lt_18
        obtain rfl := Option.some.inj (gt_18.out.symm.trans z_t_18)
        subst At_18
        have ltt_18 := cell_lt ct_18_0
        replace ct_18_0 := cell_below HBwr0.out ct_18_0
        replace ct_18_1 := cell_below HBwr0.out ct_18_1
        replace ct_18_2 := cell_below HBwr0.out ct_18_2
        clear z_t_18
        have b0t_18 : (0 : Int) ≤ (k0 : Int) := by omega
        have b1t_18 : (k0 : Int) < ((b.length : Nat) : Int) := by omega
        have b2t_18 : ((k0 : Int)).toNat = k0 := by omega
        have Hct_18_0 := Lib.hid ct_18_0
        replace ct_18_0 := cell_regrown ct_18_0
        have Hct_18_1 := Lib.hid ct_18_1
        replace ct_18_1 := cell_regrown ct_18_1
        have Hct_18_2 := Lib.hid ct_18_2
        replace ct_18_2 := cell_regrown ct_18_2
        replace H := let_hid H
        obtain ⟨t_20, ht_20, H⟩ := H
        have ct_20 : ∀ W, (binOp .neq 34 (.agg #[.int .i64 t_14_x0, .int .i64 t_14_x1, .int .i64 t_14_x2]) (.agg #[.int .i64 t_18_x0, .int .i64 t_18_x1, .int .i64 t_18_x2])).run Tryd.prog W = .ok (.bool t_20) W := fun W => by rw [neqa_34, ht_20]
        refine wp_region_quiet_below (by kernel_rfl) (by kernel_rfl) ?_
        repeat (go_big_quiet_step (fail))
        refine wpQuiet_nil ?_
        intro Y6 hY6
        replace hY6 := below_class hY6
        replace ct_14_0 := Hct_14_0.out
        clear Hct_14_0
        replace ct_14_1 := Hct_14_1.out
        clear Hct_14_1
        replace ct_14_2 := Hct_14_2.out
        clear Hct_14_2
        replace ct_18_0 := Hct_18_0.out
        clear Hct_18_0
        replace ct_18_1 := Hct_18_1.out
        clear Hct_18_1
        replace ct_18_2 := Hct_18_2.out
        clear Hct_18_2
        have HBY6 := Lib.hid (Below.step HBwr0.out hY6)
        replace ct_14_0 := cell_below hY6 ct_14_0
        replace ct_14_1 := cell_below hY6 ct_14_1
        replace ct_14_2 := cell_below hY6 ct_14_2
        replace ct_18_0 := cell_below hY6 ct_18_0
        replace ct_18_1 := cell_below hY6 ct_18_1
        replace ct_18_2 := cell_below hY6 ct_18_2
        clear hY6
        cases t_20 with
        | false =>
          replace H := ite_f H
          replace H := app_hid H
          go_wp2_with fail
          go_roundg m0
          case measure => omega
          case rel => exact ⟨k0 + 1, by omega, by go_num, H, HBY6⟩
        | true =>
          replace H := ite_t H
          obtain rfl := ret_hid H
          go_wp2_with fail
          go_ret
          exact ⟨rfl, HBY6.out⟩
  | true =>
    have nht_5 : ¬ (a.length = b.length) := by have := bne_iff_ne.1 ht_5; omega
    replace H := ite_t H
    obtain rfl := ret_hid H
    go_wp2_with fail
    go_ret
    exact ⟨rfl, HB.out⟩
end Go.Proofs.YtlljmgphgmklcaaDoor.GlVTriples

/- loop.example/g01062/spec.AreRates as a plain function, and the contract of the program's: where the plain one has an answer, the program has it. Conditions: slices read as lists. -/
namespace Go.Proofs.YtlljmgphgmklcaaDoor.GsAreRates
set_option linter.unusedVariables false
set_option linter.unusedSimpArgs false
open Go.RowKit
open Go.Proofs.YtlljmgphgmklcaaDoor.Rowed Go.Proofs.YtlljmgphgmklcaaDoor.Turn Go.Proofs.YtlljmgphgmklcaaDoor.Aid Go.Proofs.YtlljmgphgmklcaaDoor.GoP Go.Proofs.YtlljmgphgmklcaaDoor.GoM

def P (fuel : Nat) (list : (List Go.Proofs.YtlljmgphgmklcaaDoor.PRate.Rate)) : Option (Bool) :=
  Option.bind (Go.Proofs.YtlljmgphgmklcaaDoor.GsL8Good.P fuel list) fun (t_2 : Bool) =>
  some t_2

set_option maxRecDepth 100000 in
set_option maxHeartbeats 2000000 in
theorem C (fuel : Nat) (list : (List Go.Proofs.YtlljmgphgmklcaaDoor.PRate.Rate)) (A0 : Option Addr) (c0 : Nat)  (w : World) (M0 : Hid (Cells w 5 A0 list.length (Go.Proofs.YtlljmgphgmklcaaDoor.PRate.flat list))) (N0 : Hid (list.length ≤ 9223372036854775807))  {r : Bool} (H : Hid (P fuel list = some r)) :
    Calls Tryd.prog 10 #[.slice A0 list.length c0] w (Gives (.bool r) w) := by
  have HB := Lib.hid (Below.refl w.heap.size w)
  unfold P at H
  have N0o := N0.out
  go_enter Tryd.func10, Tryd.ntmps10
  replace H := bind_hid H
  obtain ⟨t_2, qt_2, H⟩ := H
  go_wp2_with fail
  go_at_call 26
  refine (Go.Proofs.YtlljmgphgmklcaaDoor.GsL8Good.C fuel (list) A0 c0 _   (Lib.hid (Cells.below M0.out HB.out)) N0 qt_2).mono ?_
  rintro e_t_2 wt_2 ⟨rfl, bt_2⟩
  have HBwt_2 := Lib.hid (Below.step HB.out bt_2)
  clear bt_2
  obtain rfl := ret_hid H
  go_wp2_with fail
  go_ret
  exact ⟨rfl, HBwt_2.out⟩
end Go.Proofs.YtlljmgphgmklcaaDoor.GsAreRates

/- loop.example/g01062/impl.RateFor as a plain function, and the contract of the program's: where the plain one has an answer, the program has it. Conditions: slices read as lists. -/
namespace Go.Proofs.YtlljmgphgmklcaaDoor.GiRateFor
set_option linter.unusedVariables false
set_option linter.unusedSimpArgs false
open Go.RowKit
open Go.Proofs.YtlljmgphgmklcaaDoor.Rowed Go.Proofs.YtlljmgphgmklcaaDoor.Turn Go.Proofs.YtlljmgphgmklcaaDoor.Aid Go.Proofs.YtlljmgphgmklcaaDoor.GoP Go.Proofs.YtlljmgphgmklcaaDoor.GoM

def P (list : (List Go.Proofs.YtlljmgphgmklcaaDoor.PRate.Rate)) (day : Int) (zone : Int) (grams : Int) : Option (Int × Bool) :=
  Option.bind (Go.Proofs.YtlljmgphgmklcaaDoor.GiCanSend.P list zone grams) fun (t_5 : Bool) =>
  letK (!t_5) fun (t_6 : Bool) =>
  joinK (fun (t_11 : Bool) =>
  iteK t_11
  (some (0, false))
  (Option.bind (Go.Proofs.YtlljmgphgmklcaaDoor.GiRateOn.P list day zone grams) fun (t_18 : Int) =>
  letK (decide (0 < t_18)) fun (t_22 : Bool) =>
  some (t_18, t_22))) fun jt_11 => iteK t_6 (appK jt_11 true) (Option.bind (Go.Proofs.YtlljmgphgmklcaaDoor.GiIsDay.P day) fun (t_9 : Bool) =>
  letK (!t_9) fun (t_10 : Bool) =>
  appK jt_11 t_10)

set_option maxRecDepth 100000 in
set_option maxHeartbeats 2000000 in
theorem C (list : (List Go.Proofs.YtlljmgphgmklcaaDoor.PRate.Rate)) (day : Int) (zone : Int) (grams : Int) (A0 : Option Addr) (c0 : Nat)  (w : World) (M0 : Hid (Cells w 5 A0 list.length (Go.Proofs.YtlljmgphgmklcaaDoor.PRate.flat list))) (N0 : Hid (list.length ≤ 9223372036854775807))  {r0 : Int} {r1 : Bool} (H : Hid (P list day zone grams = some (r0, r1))) :
    Calls Tryd.prog 11 #[.slice A0 list.length c0, .int .i64 day, .int .i64 zone, .int .i64 grams] w (Gives (.tuple #[.int .i64 r0, .bool r1]) w) := by
  have HB := Lib.hid (Below.refl w.heap.size w)
  unfold P at H
  have N0o := N0.out
  go_enter Tryd.func11, Tryd.ntmps11
  replace H := bind_hid H
  obtain ⟨t_5, qt_5, H⟩ := H
  go_wp2_with fail
  go_at_call 24
  refine (Go.Proofs.YtlljmgphgmklcaaDoor.GiCanSend.C (list) (zone) (grams) A0 c0 _   (Lib.hid (Cells.below M0.out HB.out)) N0 qt_5).mono ?_
  rintro e_t_5 wt_5 ⟨rfl, bt_5⟩
  have HBwt_5 := Lib.hid (Below.step HB.out bt_5)
  clear bt_5
  cases t_5 with
  | false =>
    replace H := let_hid H
    obtain ⟨t_6, ht_6, H⟩ := H
    obtain rfl : t_6 = true := ht_6.symm
    replace H := join_hid H
    replace H := ite_t H
    replace H := app_hid H
    replace H := ite_t H
    cases ret_hid H
    go_wp2_with fail
    go_ret2
    exact ⟨rfl, HBwt_5.out⟩
  | true =>
    replace H := let_hid H
    obtain ⟨t_6, ht_6, H⟩ := H
    obtain rfl : t_6 = false := ht_6.symm
    replace H := join_hid H
    replace H := ite_f H
    replace H := bind_hid H
    obtain ⟨t_9, qt_9, H⟩ := H
    go_wp2_with fail
    go_at_call 31
    refine (Go.Proofs.YtlljmgphgmklcaaDoor.GiIsDay.C (day)  _    qt_9).mono ?_
    rintro e_t_9 wt_9 ⟨rfl, bt_9⟩
    have HBwt_9 := Lib.hid (Below.step HBwt_5.out bt_9)
    clear bt_9
    cases t_9 with
    | false =>
      replace H := let_hid H
      obtain ⟨t_10, ht_10, H⟩ := H
      obtain rfl : t_10 = true := ht_10.symm
      replace H := app_hid H
      replace H := ite_t H
      cases ret_hid H
      go_wp2_with fail
      go_ret2
      exact ⟨rfl, HBwt_9.out⟩
    | true =>
      replace H := let_hid H
      obtain ⟨t_10, ht_10, H⟩ := H
      obtain rfl : t_10 = false := ht_10.symm
      replace H := app_hid H
      replace H := ite_f H
      replace H := bind_hid H
      obtain ⟨t_18, qt_18, H⟩ := H
      go_wp2_with fail
      go_at_call 32
      refine (Go.Proofs.YtlljmgphgmklcaaDoor.GiRateOn.C (list) (day) (zone) (grams) A0 c0 _   (Lib.hid (Cells.below M0.out HBwt_9.out)) N0 qt_18).mono ?_
      rintro e_t_18 wt_18 ⟨rfl, bt_18⟩
      have HBwt_18 := Lib.hid (Below.step HBwt_9.out bt_18)
      clear bt_18
      replace H := let_hid H
      obtain ⟨t_22, ht_22, H⟩ := H
      cases ret_hid H
      go_wp2_with fail
      go_ret2
      exact ⟨rfl, HBwt_18.out⟩
end Go.Proofs.YtlljmgphgmklcaaDoor.GiRateFor

/- (*loop.example/g01062/spec.l1Cur).rateDay as a plain function, and the contract of the program's: where the plain one has an answer, the program has it. Conditions: slices read as lists. -/
namespace Go.Proofs.YtlljmgphgmklcaaDoor.GsL1CurRateDay
set_option linter.unusedVariables false
set_option linter.unusedSimpArgs false
open Go.RowKit
open Go.Proofs.YtlljmgphgmklcaaDoor.Rowed Go.Proofs.YtlljmgphgmklcaaDoor.Turn Go.Proofs.YtlljmgphgmklcaaDoor.Aid Go.Proofs.YtlljmgphgmklcaaDoor.GoP Go.Proofs.YtlljmgphgmklcaaDoor.GoM

def P (c : Go.Proofs.YtlljmgphgmklcaaDoor.GoC.Tape) : Option (Int × Go.Proofs.YtlljmgphgmklcaaDoor.GoC.Tape) :=
  letK ([0, 1, 4, 5, 6, 9, 10, 11, 14, 15, 20, 25, 4000, 4001, (-1)]) fun (t_2 : (List Int)) =>
  bind2 (Go.Proofs.YtlljmgphgmklcaaDoor.GsL1CurAmong.P c t_2) fun (t_3 : Int) (t_3_tp : Go.Proofs.YtlljmgphgmklcaaDoor.GoC.Tape) =>
  some (t_3, t_3_tp)

set_option maxRecDepth 100000 in
set_option maxHeartbeats 2000000 in
theorem C (c : Go.Proofs.YtlljmgphgmklcaaDoor.GoC.Tape)   (g0 : Nat) (Ac0 : Option Addr) (cc0 : Nat) (bc0 : Nat) (w : World)   (K0 : Hid (Go.Proofs.YtlljmgphgmklcaaDoor.GoC.CurIs w bc0 g0 Ac0 cc0 c)) {r : Int} {t_ : Go.Proofs.YtlljmgphgmklcaaDoor.GoC.Tape} (H : Hid (P c = some (r, t_))) :
    Calls Tryd.prog 33 #[.pointer (some ⟨g0, 0, none⟩)] w (fun e w' => e = .returned (.int .i64 r) ∧ Go.Proofs.YtlljmgphgmklcaaDoor.GoC.CurIs w' bc0 g0 Ac0 cc0 t_ ∧ w.grownBy w' (Value.slice (some ⟨g0, 0, none⟩) 1 1).ownBlock) := by
  have HB := Lib.hid (Aid.grown_refl w (Value.slice (some ⟨g0, 0, none⟩) 1 1).ownBlock)
  unfold P at H
  have L0 : bc0 ≤ w.heap.size := by have := Go.Proofs.YtlljmgphgmklcaaDoor.GoC.cur_lt K0.out; omega
  go_enter Tryd.func33, Tryd.ntmps33
  replace H := let_hid H
  obtain ⟨t_2, ht_2, H⟩ := H
  obtain ⟨w_t_2, hw_t_2⟩ : ∃ x, w.alloc (.cells #[.int .i64 0, .int .i64 1, .int .i64 4, .int .i64 5, .int .i64 6, .int .i64 9, .int .i64 10, .int .i64 11, .int .i64 14, .int .i64 15, .int .i64 20, .int .i64 25, .int .i64 4000, .int .i64 4001, .int .i64 (-1)] 3) = x := ⟨_, rfl⟩
  have bw_t_2 : Below w.heap.size w w_t_2 := by rw [← hw_t_2]; exact (Below.refl _ _).alloc (Nat.le_refl _) _
  have hs_t_2 := HB.out.size
  have nt_2 : t_2.length = 15 := by rw [← ht_2]; rfl
  have Ot_2 : Hid (w_t_2.ownsRow w.heap.size 3 1 (.slice (some ⟨w.heap.size, 0, none⟩) 15 15) 15 (Go.Proofs.YtlljmgphgmklcaaDoor.HelpInt.iv t_2)) := by
    rw [← hw_t_2, ← ht_2]
    have e_ : ([.int .i64 0, .int .i64 1, .int .i64 4, .int .i64 5, .int .i64 6, .int .i64 9, .int .i64 10, .int .i64 11, .int .i64 14, .int .i64 15, .int .i64 20, .int .i64 25, .int .i64 4000, .int .i64 4001, .int .i64 (-1)] : List Value) = (Go.Proofs.YtlljmgphgmklcaaDoor.HelpInt.iv ([0, 1, 4, 5, 6, 9, 10, 11, 14, 15, 20, 25, 4000, 4001, (-1)] : List Int)) := rfl
    exact Lib.hid (own_laid (n := 15) hs_t_2 e_ rfl (by unfold maxLen; omega))
  clear hs_t_2
  have hht_2 := Lib.hid ht_2
  clear ht_2
  replace nt_2 := Lib.hid nt_2
  have Dt_2_c0 := Lib.hid (Go.Proofs.YtlljmgphgmklcaaDoor.GoC.apart_cur K0.out)
  have HBw_t_2 := Lib.hid (grown_below HB.out bw_t_2)
  replace K0 := Lib.hid (Go.Proofs.YtlljmgphgmklcaaDoor.GoC.cur_below K0.out bw_t_2)
  clear bw_t_2
  replace H := bind2_hid H
  obtain ⟨t_3, t_3_tp, qt_3, H⟩ := H
  go_wp2_with fail
  have hc_ := nt_2.out
  have hv_ : (Value.slice (some ⟨w.heap.size, 0, none⟩) 15 15 : Value) = Value.slice (some ⟨w.heap.size, 0, none⟩) t_2.length 15 := by rw [hc_]
  try rw [hv_]
  replace Ot_2 := Lib.hid (own_len hc_ Ot_2.out)
  clear hc_ hv_
  go_wp2_with fail
  go_at_call 23
  refine (Go.Proofs.YtlljmgphgmklcaaDoor.GsL1CurAmong.C (c) (t_2) (some ⟨w.heap.size, 0, none⟩) 15 (g0) (Ac0) (cc0) (bc0) _   (Lib.hid (own_cells Ot_2.out)) (Lib.hid (own_max Ot_2.out)) K0 (Lib.hid (fun _ => Dt_2_c0.out)) qt_3).mono ?_
  rintro e_t_3 wt_3 ⟨rfl, kt_3, gt_3⟩
  have Kt_3 := Lib.hid kt_3
  have Gt_3 : Hid (w_t_2.grownBy wt_3 (Value.slice (some ⟨g0, 0, none⟩) 1 1).ownBlock) := Lib.hid gt_3
  clear kt_3 gt_3
  have HBwt_3 := Lib.hid (Aid.grown_tr HBw_t_2.out Gt_3.out)
  replace Ot_2 := Lib.hid (own_other Ot_2.out Gt_3.out (Apart.symm Dt_2_c0.out))
  clear K0 Gt_3
  cases ret_hid H
  go_wp2_with fail
  go_ret
  exact ⟨rfl, Kt_3.out, HBwt_3.out⟩
end Go.Proofs.YtlljmgphgmklcaaDoor.GsL1CurRateDay

/- loop.example/g01062/spec.DrawRateFor as a plain function, and the contract of the program's: where the plain one has an answer, the program has it. Conditions: slices read as lists. -/
namespace Go.Proofs.YtlljmgphgmklcaaDoor.GsDrawRateFor
set_option linter.unusedVariables false
set_option linter.unusedSimpArgs false
open Go.RowKit
open Go.Proofs.YtlljmgphgmklcaaDoor.Rowed Go.Proofs.YtlljmgphgmklcaaDoor.Turn Go.Proofs.YtlljmgphgmklcaaDoor.Aid Go.Proofs.YtlljmgphgmklcaaDoor.GoP Go.Proofs.YtlljmgphgmklcaaDoor.GoM

def P (fuel : Nat) (tapes : List Int → Go.Proofs.YtlljmgphgmklcaaDoor.GoC.Tape) (code : (List Int)) : Option ((List Go.Proofs.YtlljmgphgmklcaaDoor.PRate.Rate) × Int × Int × Int) :=
  letK (tapes code) fun (t_6 : Go.Proofs.YtlljmgphgmklcaaDoor.GoC.Tape) =>
  bind2 (Go.Proofs.YtlljmgphgmklcaaDoor.GsL1CurRates.P fuel t_6) fun (t_9 : (List Go.Proofs.YtlljmgphgmklcaaDoor.PRate.Rate)) (t_9_tp : Go.Proofs.YtlljmgphgmklcaaDoor.GoC.Tape) =>
  bind2 (Go.Proofs.YtlljmgphgmklcaaDoor.GsL1CurRateDay.P t_9_tp) fun (t_11 : Int) (t_11_tp : Go.Proofs.YtlljmgphgmklcaaDoor.GoC.Tape) =>
  letK ([0, 0, 1, 2, 9, 10]) fun (t_13 : (List Int)) =>
  bind2 (Go.Proofs.YtlljmgphgmklcaaDoor.GsL1CurAmong.P t_11_tp t_13) fun (t_14 : Int) (t_14_tp : Go.Proofs.YtlljmgphgmklcaaDoor.GoC.Tape) =>
  letK ([1, 20, 21, 50, 51, 100, 101, 0, 2001]) fun (t_16 : (List Int)) =>
  bind2 (Go.Proofs.YtlljmgphgmklcaaDoor.GsL1CurAmong.P t_14_tp t_16) fun (t_17 : Int) (t_17_tp : Go.Proofs.YtlljmgphgmklcaaDoor.GoC.Tape) =>
  some (t_9, t_11, t_14, t_17)

set_option maxRecDepth 100000 in
set_option maxHeartbeats 2000000 in
theorem C (fuel : Nat) (tapes : List Int → Go.Proofs.YtlljmgphgmklcaaDoor.GoC.Tape) (code : (List Int)) (A0 : Option Addr) (c0 : Nat)  (w : World) (HE : Hid (Go.Proofs.YtlljmgphgmklcaaDoor.GoC.Tells tapes)) (M0 : Hid (Cells w 1 A0 code.length (Go.Proofs.YtlljmgphgmklcaaDoor.GoC.u8s code))) (N0 : Hid (code.length ≤ 9223372036854775807)) (V0 : Hid (∀ z ∈ code, 0 ≤ z ∧ z ≤ 255))  {r0 : (List Go.Proofs.YtlljmgphgmklcaaDoor.PRate.Rate)} {r1 : Int} {r2 : Int} {r3 : Int} (H : Hid (P fuel tapes code = some (r0, r1, r2, r3))) :
    Calls Tryd.prog 12 #[.slice A0 code.length c0] w (fun e w' => ∃ A_r0 c_r0, e = .returned (.tuple #[.slice A_r0 r0.length c_r0, .int .i64 r1, .int .i64 r2, .int .i64 r3]) ∧ w'.ownsRow w.heap.size 38 5 (.slice A_r0 r0.length c_r0) r0.length (Go.Proofs.YtlljmgphgmklcaaDoor.PRate.flat r0) ∧ Below w.heap.size w w') := by
  have HB := Lib.hid (Below.refl w.heap.size w)
  unfold P at H
  have N0o := N0.out
  go_enter Tryd.func12, Tryd.ntmps12
  replace H := let_hid H
  obtain ⟨t_6, ht_6, H⟩ := H
  obtain ⟨w_t_6, hw_t_6⟩ : ∃ x, w.alloc (.cells #[.slice A0 code.length c0, .int .i64 0, .int .u64 0] 46) = x := ⟨_, rfl⟩
  have bw_t_6 : Below w.heap.size w w_t_6 := by rw [← hw_t_6]; exact (Below.refl _ _).alloc (Nat.le_refl _) _
  have Kt_6 : Hid (Go.Proofs.YtlljmgphgmklcaaDoor.GoC.CurIs w_t_6 w.heap.size w.heap.size A0 c0 t_6) := Lib.hid (by rw [← hw_t_6, ← ht_6]; exact Go.Proofs.YtlljmgphgmklcaaDoor.GoC.cur_new HB.out.size (Cells.below M0.out HB.out) (fun a_ ha_ h0_ => by subst ha_; exact Go.Proofs.YtlljmgphgmklcaaDoor.GoC.cells_lt M0.out (by unfold Go.Proofs.YtlljmgphgmklcaaDoor.GoC.u8s; rw [List.length_map]; exact h0_)) (HE.out.2.2 code V0.out N0.out))
  have hht_6 := Lib.hid ht_6
  clear ht_6
  have HBw_t_6 := Lib.hid (Below.step HB.out bw_t_6)
  clear bw_t_6
  replace H := bind2_hid H
  obtain ⟨t_9, t_9_tp, qt_9, H⟩ := H
  go_wp2_with fail
  go_at_call 22
  refine (Go.Proofs.YtlljmgphgmklcaaDoor.GsL1CurRates.C fuel (t_6) (w.heap.size) (A0) (c0) (w.heap.size) _   Kt_6 qt_9).mono ?_
  rintro e_t_9 wt_9 ⟨At_9, ct_9, rfl, ot_9, kt_9, gt_9⟩
  have Dt_9_t_6 := Lib.hid (Go.Proofs.YtlljmgphgmklcaaDoor.GoC.apart_callcur ot_9 Kt_6.out)
  have Ot_9 := Lib.hid (own_lower ot_9 HBw_t_6.out.size)
  clear ot_9
  have Kt_9 := Lib.hid kt_9
  have Gt_9 : Hid (w_t_6.grownBy wt_9 (Value.slice (some ⟨w.heap.size, 0, none⟩) 1 1).ownBlock) := Lib.hid gt_9
  clear kt_9 gt_9
  have HBwt_9 := Lib.hid (Go.Proofs.YtlljmgphgmklcaaDoor.GoC.below_cur HBw_t_6.out Gt_9.out HBw_t_6.out.size (Go.Proofs.YtlljmgphgmklcaaDoor.GoC.cur_lt Kt_6.out).1)
  clear Kt_6 Gt_9
  replace H := bind2_hid H
  obtain ⟨t_11, t_11_tp, qt_11, H⟩ := H
  go_wp2_with fail
  go_at_call 33
  refine (Go.Proofs.YtlljmgphgmklcaaDoor.GsL1CurRateDay.C (t_9_tp) (w.heap.size) (A0) (c0) (w.heap.size) _   Kt_9 qt_11).mono ?_
  rintro e_t_11 wt_11 ⟨rfl, kt_11, gt_11⟩
  have Kt_11 := Lib.hid kt_11
  have Gt_11 : Hid (wt_9.grownBy wt_11 (Value.slice (some ⟨w.heap.size, 0, none⟩) 1 1).ownBlock) := Lib.hid gt_11
  clear kt_11 gt_11
  have HBwt_11 := Lib.hid (Go.Proofs.YtlljmgphgmklcaaDoor.GoC.below_cur HBwt_9.out Gt_11.out HBwt_9.out.size (Go.Proofs.YtlljmgphgmklcaaDoor.GoC.cur_lt Kt_9.out).1)
  replace Ot_9 := Lib.hid (own_other Ot_9.out Gt_11.out (Apart.symm Dt_9_t_6.out))
  clear Kt_9 Gt_11
  replace H := let_hid H
  obtain ⟨t_13, ht_13, H⟩ := H
  obtain ⟨w_t_13, hw_t_13⟩ : ∃ x, wt_11.alloc (.cells #[.int .i64 0, .int .i64 0, .int .i64 1, .int .i64 2, .int .i64 9, .int .i64 10] 3) = x := ⟨_, rfl⟩
  have bw_t_13 : Below wt_11.heap.size wt_11 w_t_13 := by rw [← hw_t_13]; exact (Below.refl _ _).alloc (Nat.le_refl _) _
  have hs_t_13 := HBwt_11.out.size
  have nt_13 : t_13.length = 6 := by rw [← ht_13]; rfl
  have Ot_13 : Hid (w_t_13.ownsRow w.heap.size 3 1 (.slice (some ⟨wt_11.heap.size, 0, none⟩) 6 6) 6 (Go.Proofs.YtlljmgphgmklcaaDoor.HelpInt.iv t_13)) := by
    rw [← hw_t_13, ← ht_13]
    have e_ : ([.int .i64 0, .int .i64 0, .int .i64 1, .int .i64 2, .int .i64 9, .int .i64 10] : List Value) = (Go.Proofs.YtlljmgphgmklcaaDoor.HelpInt.iv ([0, 0, 1, 2, 9, 10] : List Int)) := rfl
    exact Lib.hid (own_laid (n := 6) hs_t_13 e_ rfl (by unfold maxLen; omega))
  clear hs_t_13
  have hht_13 := Lib.hid ht_13
  clear ht_13
  replace nt_13 := Lib.hid nt_13
  have Dt_13_t_9 := Lib.hid (apart_fresh Ot_9.out)
  have Dt_13_t_6 := Lib.hid (Go.Proofs.YtlljmgphgmklcaaDoor.GoC.apart_cur Kt_11.out)
  have HBw_t_13 := Lib.hid (Below.step HBwt_11.out bw_t_13)
  replace Ot_9 := Lib.hid (own_below Ot_9.out bw_t_13)
  replace Kt_11 := Lib.hid (Go.Proofs.YtlljmgphgmklcaaDoor.GoC.cur_below Kt_11.out bw_t_13)
  clear bw_t_13
  replace H := bind2_hid H
  obtain ⟨t_14, t_14_tp, qt_14, H⟩ := H
  go_wp2_with fail
  have hc_ := nt_13.out
  have hv_ : (Value.slice (some ⟨wt_11.heap.size, 0, none⟩) 6 6 : Value) = Value.slice (some ⟨wt_11.heap.size, 0, none⟩) t_13.length 6 := by rw [hc_]
  try rw [hv_]
  replace Ot_13 := Lib.hid (own_len hc_ Ot_13.out)
  clear hc_ hv_
  go_wp2_with fail
  go_at_call 23
  refine (Go.Proofs.YtlljmgphgmklcaaDoor.GsL1CurAmong.C (t_11_tp) (t_13) (some ⟨wt_11.heap.size, 0, none⟩) 6 (w.heap.size) (A0) (c0) (w.heap.size) _   (Lib.hid (own_cells Ot_13.out)) (Lib.hid (own_max Ot_13.out)) Kt_11 (Lib.hid (fun _ => Dt_13_t_6.out)) qt_14).mono ?_
  rintro e_t_14 wt_14 ⟨rfl, kt_14, gt_14⟩
  have Kt_14 := Lib.hid kt_14
  have Gt_14 : Hid (w_t_13.grownBy wt_14 (Value.slice (some ⟨w.heap.size, 0, none⟩) 1 1).ownBlock) := Lib.hid gt_14
  clear kt_14 gt_14
  have HBwt_14 := Lib.hid (Go.Proofs.YtlljmgphgmklcaaDoor.GoC.below_cur HBw_t_13.out Gt_14.out HBw_t_13.out.size (Go.Proofs.YtlljmgphgmklcaaDoor.GoC.cur_lt Kt_11.out).1)
  replace Ot_9 := Lib.hid (own_other Ot_9.out Gt_14.out (Apart.symm Dt_9_t_6.out))
  replace Ot_13 := Lib.hid (own_other Ot_13.out Gt_14.out (Apart.symm Dt_13_t_6.out))
  clear Kt_11 Gt_14
  replace H := let_hid H
  obtain ⟨t_16, ht_16, H⟩ := H
  obtain ⟨w_t_16, hw_t_16⟩ : ∃ x, wt_14.alloc (.cells #[.int .i64 1, .int .i64 20, .int .i64 21, .int .i64 50, .int .i64 51, .int .i64 100, .int .i64 101, .int .i64 0, .int .i64 2001] 3) = x := ⟨_, rfl⟩
  have bw_t_16 : Below wt_14.heap.size wt_14 w_t_16 := by rw [← hw_t_16]; exact (Below.refl _ _).alloc (Nat.le_refl _) _
  have hs_t_16 := HBwt_14.out.size
  have nt_16 : t_16.length = 9 := by rw [← ht_16]; rfl
  have Ot_16 : Hid (w_t_16.ownsRow w.heap.size 3 1 (.slice (some ⟨wt_14.heap.size, 0, none⟩) 9 9) 9 (Go.Proofs.YtlljmgphgmklcaaDoor.HelpInt.iv t_16)) := by
    rw [← hw_t_16, ← ht_16]
    have e_ : ([.int .i64 1, .int .i64 20, .int .i64 21, .int .i64 50, .int .i64 51, .int .i64 100, .int .i64 101, .int .i64 0, .int .i64 2001] : List Value) = (Go.Proofs.YtlljmgphgmklcaaDoor.HelpInt.iv ([1, 20, 21, 50, 51, 100, 101, 0, 2001] : List Int)) := rfl
    exact Lib.hid (own_laid (n := 9) hs_t_16 e_ rfl (by unfold maxLen; omega))
  clear hs_t_16
  have hht_16 := Lib.hid ht_16
  clear ht_16
  replace nt_16 := Lib.hid nt_16
  have Dt_16_t_9 := Lib.hid (apart_fresh Ot_9.out)
  have Dt_16_t_13 := Lib.hid (apart_fresh Ot_13.out)
  have Dt_16_t_6 := Lib.hid (Go.Proofs.YtlljmgphgmklcaaDoor.GoC.apart_cur Kt_14.out)
  have HBw_t_16 := Lib.hid (Below.step HBwt_14.out bw_t_16)
  replace Ot_9 := Lib.hid (own_below Ot_9.out bw_t_16)
  replace Ot_13 := Lib.hid (own_below Ot_13.out bw_t_16)
  replace Kt_14 := Lib.hid (Go.Proofs.YtlljmgphgmklcaaDoor.GoC.cur_below Kt_14.out bw_t_16)
  clear bw_t_16
  replace H := bind2_hid H
  obtain ⟨t_17, t_17_tp, qt_17, H⟩ := H
  go_wp2_with fail
  have hc_ := nt_16.out
  have hv_ : (Value.slice (some ⟨wt_14.heap.size, 0, none⟩) 9 9 : Value) = Value.slice (some ⟨wt_14.heap.size, 0, none⟩) t_16.length 9 := by rw [hc_]
  try rw [hv_]
  replace Ot_16 := Lib.hid (own_len hc_ Ot_16.out)
  clear hc_ hv_
  go_wp2_with fail
  go_at_call 23
  refine (Go.Proofs.YtlljmgphgmklcaaDoor.GsL1CurAmong.C (t_14_tp) (t_16) (some ⟨wt_14.heap.size, 0, none⟩) 9 (w.heap.size) (A0) (c0) (w.heap.size) _   (Lib.hid (own_cells Ot_16.out)) (Lib.hid (own_max Ot_16.out)) Kt_14 (Lib.hid (fun _ => Dt_16_t_6.out)) qt_17).mono ?_
  rintro e_t_17 wt_17 ⟨rfl, kt_17, gt_17⟩
  have Kt_17 := Lib.hid kt_17
  have Gt_17 : Hid (w_t_16.grownBy wt_17 (Value.slice (some ⟨w.heap.size, 0, none⟩) 1 1).ownBlock) := Lib.hid gt_17
  clear kt_17 gt_17
  have HBwt_17 := Lib.hid (Go.Proofs.YtlljmgphgmklcaaDoor.GoC.below_cur HBw_t_16.out Gt_17.out HBw_t_16.out.size (Go.Proofs.YtlljmgphgmklcaaDoor.GoC.cur_lt Kt_14.out).1)
  replace Ot_9 := Lib.hid (own_other Ot_9.out Gt_17.out (Apart.symm Dt_9_t_6.out))
  replace Ot_13 := Lib.hid (own_other Ot_13.out Gt_17.out (Apart.symm Dt_13_t_6.out))
  replace Ot_16 := Lib.hid (own_other Ot_16.out Gt_17.out (Apart.symm Dt_16_t_6.out))
  clear Kt_14 Gt_17
  cases ret_hid H
  go_wp2_with fail
  (try simp only [Exit.inBlock, Exit.then]); refine bodyPost_ret (results_tmp4 rfl _ _ _) rfl ?_
  exact ⟨At_9, ct_9, rfl, Ot_9.out, HBwt_17.out⟩
end Go.Proofs.YtlljmgphgmklcaaDoor.GsDrawRateFor

/- loop.example/g01062/spec.RateFor as a plain function, and the contract of the program's: where the plain one has an answer, the program has it. Conditions: slices read as lists. -/
namespace Go.Proofs.YtlljmgphgmklcaaDoor.GsRateFor
set_option linter.unusedVariables false
set_option linter.unusedSimpArgs false
open Go.RowKit
open Go.Proofs.YtlljmgphgmklcaaDoor.Rowed Go.Proofs.YtlljmgphgmklcaaDoor.Turn Go.Proofs.YtlljmgphgmklcaaDoor.Aid Go.Proofs.YtlljmgphgmklcaaDoor.GoP Go.Proofs.YtlljmgphgmklcaaDoor.GoM

def P (fuel : Nat) (list : (List Go.Proofs.YtlljmgphgmklcaaDoor.PRate.Rate)) (day : Int) (zone : Int) (grams : Int) : Option (Int × Bool) :=
  Option.bind (Go.Proofs.YtlljmgphgmklcaaDoor.GsL8Good.P fuel list) fun (t_3 : Bool) =>
  letK (!t_3) fun (t_4 : Bool) =>
  joinK (fun (t_9 : Bool) =>
  joinK (fun (t_14 : Bool) =>
  joinK (fun (t_19 : Bool) =>
  iteK t_19
  (some (0, false))
  (Option.bind (Go.Proofs.YtlljmgphgmklcaaDoor.GsL8For.P list day zone grams) fun (t_26 : Int) =>
  letK (decide (0 < t_26)) fun (t_30 : Bool) =>
  some (t_26, t_30))) fun jt_19 => iteK t_14 (appK jt_19 true) (Option.bind (Go.Proofs.YtlljmgphgmklcaaDoor.GsL8Grams.P grams) fun (t_17 : Bool) =>
  letK (!t_17) fun (t_18 : Bool) =>
  appK jt_19 t_18)) fun jt_14 => iteK t_9 (appK jt_14 true) (Option.bind (Go.Proofs.YtlljmgphgmklcaaDoor.GsL8Zone.P zone) fun (t_12 : Bool) =>
  letK (!t_12) fun (t_13 : Bool) =>
  appK jt_14 t_13)) fun jt_9 => iteK t_4 (appK jt_9 true) (Option.bind (Go.Proofs.YtlljmgphgmklcaaDoor.GsL2Day.P day) fun (t_7 : Bool) =>
  letK (!t_7) fun (t_8 : Bool) =>
  appK jt_9 t_8)

set_option maxRecDepth 100000 in
set_option maxHeartbeats 2000000 in
theorem C (fuel : Nat) (list : (List Go.Proofs.YtlljmgphgmklcaaDoor.PRate.Rate)) (day : Int) (zone : Int) (grams : Int) (A0 : Option Addr) (c0 : Nat)  (w : World) (M0 : Hid (Cells w 5 A0 list.length (Go.Proofs.YtlljmgphgmklcaaDoor.PRate.flat list))) (N0 : Hid (list.length ≤ 9223372036854775807))  {r0 : Int} {r1 : Bool} (H : Hid (P fuel list day zone grams = some (r0, r1))) :
    Calls Tryd.prog 13 #[.slice A0 list.length c0, .int .i64 day, .int .i64 zone, .int .i64 grams] w (Gives (.tuple #[.int .i64 r0, .bool r1]) w) := by
  have HB := Lib.hid (Below.refl w.heap.size w)
  unfold P at H
  have N0o := N0.out
  go_enter Tryd.func13, Tryd.ntmps13
  replace H := bind_hid H
  obtain ⟨t_3, qt_3, H⟩ := H
  go_wp2_with fail
  go_at_call 26
  refine (Go.Proofs.YtlljmgphgmklcaaDoor.GsL8Good.C fuel (list) A0 c0 _   (Lib.hid (Cells.below M0.out HB.out)) N0 qt_3).mono ?_
  rintro e_t_3 wt_3 ⟨rfl, bt_3⟩
  have HBwt_3 := Lib.hid (Below.step HB.out bt_3)
  clear bt_3
  cases t_3 with
  | false =>
    replace H := let_hid H
    obtain ⟨t_4, ht_4, H⟩ := H
    obtain rfl : t_4 = true := ht_4.symm
    replace H := join_hid H
    replace H := ite_t H
    replace H := app_hid H
    replace H := join_hid H
    replace H := ite_t H
    replace H := app_hid H
    replace H := join_hid H
    replace H := ite_t H
    replace H := app_hid H
    replace H := ite_t H
    cases ret_hid H
    go_wp2_with fail
    go_ret2
    exact ⟨rfl, HBwt_3.out⟩
  | true =>
    replace H := let_hid H
    obtain ⟨t_4, ht_4, H⟩ := H
    obtain rfl : t_4 = false := ht_4.symm
    replace H := join_hid H
    replace H := ite_f H
    replace H := bind_hid H
    obtain ⟨t_7, qt_7, H⟩ := H
    go_wp2_with fail
    go_at_call 34
    refine (Go.Proofs.YtlljmgphgmklcaaDoor.GsL2Day.C (day)  _    qt_7).mono ?_
    rintro e_t_7 wt_7 ⟨rfl, bt_7⟩
    have HBwt_7 := Lib.hid (Below.step HBwt_3.out bt_7)
    clear bt_7
    cases t_7 with
    | false =>
      replace H := let_hid H
      obtain ⟨t_8, ht_8, H⟩ := H
      obtain rfl : t_8 = true := ht_8.symm
      replace H := app_hid H
      replace H := join_hid H
      replace H := ite_t H
      replace H := app_hid H
      replace H := join_hid H
      replace H := ite_t H
      replace H := app_hid H
      replace H := ite_t H
      cases ret_hid H
      go_wp2_with fail
      go_ret2
      exact ⟨rfl, HBwt_7.out⟩
    | true =>
      replace H := let_hid H
      obtain ⟨t_8, ht_8, H⟩ := H
      obtain rfl : t_8 = false := ht_8.symm
      replace H := app_hid H
      replace H := join_hid H
      replace H := ite_f H
      replace H := bind_hid H
      obtain ⟨t_12, qt_12, H⟩ := H
      go_wp2_with fail
      go_at_call 27
      refine (Go.Proofs.YtlljmgphgmklcaaDoor.GsL8Zone.C (zone)  _    qt_12).mono ?_
      rintro e_t_12 wt_12 ⟨rfl, bt_12⟩
      have HBwt_12 := Lib.hid (Below.step HBwt_7.out bt_12)
      clear bt_12
      cases t_12 with
      | false =>
        replace H := let_hid H
        obtain ⟨t_13, ht_13, H⟩ := H
        obtain rfl : t_13 = true := ht_13.symm
        replace H := app_hid H
        replace H := join_hid H
        replace H := ite_t H
        replace H := app_hid H
        replace H := ite_t H
        cases ret_hid H
        go_wp2_with fail
        go_ret2
        exact ⟨rfl, HBwt_12.out⟩
      | true =>
        replace H := let_hid H
        obtain ⟨t_13, ht_13, H⟩ := H
        obtain rfl : t_13 = false := ht_13.symm
        replace H := app_hid H
        replace H := join_hid H
        replace H := ite_f H
        replace H := bind_hid H
        obtain ⟨t_17, qt_17, H⟩ := H
        go_wp2_with fail
        go_at_call 28
        refine (Go.Proofs.YtlljmgphgmklcaaDoor.GsL8Grams.C (grams)  _    qt_17).mono ?_
        rintro e_t_17 wt_17 ⟨rfl, bt_17⟩
        have HBwt_17 := Lib.hid (Below.step HBwt_12.out bt_17)
        clear bt_17
        cases t_17 with
        | false =>
          replace H := let_hid H
          obtain ⟨t_18, ht_18, H⟩ := H
          obtain rfl : t_18 = true := ht_18.symm
          replace H := app_hid H
          replace H := ite_t H
          cases ret_hid H
          go_wp2_with fail
          go_ret2
          exact ⟨rfl, HBwt_17.out⟩
        | true =>
          replace H := let_hid H
          obtain ⟨t_18, ht_18, H⟩ := H
          obtain rfl : t_18 = false := ht_18.symm
          replace H := app_hid H
          replace H := ite_f H
          replace H := bind_hid H
          obtain ⟨t_26, qt_26, H⟩ := H
          go_wp2_with fail
          go_at_call 29
          refine (Go.Proofs.YtlljmgphgmklcaaDoor.GsL8For.C (list) (day) (zone) (grams) A0 c0 _   (Lib.hid (Cells.below M0.out HBwt_17.out)) N0 qt_26).mono ?_
          rintro e_t_26 wt_26 ⟨rfl, bt_26⟩
          have HBwt_26 := Lib.hid (Below.step HBwt_17.out bt_26)
          clear bt_26
          replace H := let_hid H
          obtain ⟨t_30, ht_30, H⟩ := H
          cases ret_hid H
          go_wp2_with fail
          go_ret2
          exact ⟨rfl, HBwt_26.out⟩
end Go.Proofs.YtlljmgphgmklcaaDoor.GsRateFor

