/- loop.example/g01062/spec.IsPair as a plain function, and the contract of the program's: where the plain one has an answer, the program has it. Conditions: slices read as lists. -/
import Derived.Test.YtgfepdfamhnppaaChecked
import Derived.Test.YtgfepdfamhnppaaGoM
import Derived.Test.YtgfepdfamhnppaaHelpInt
import Derived.Test.YtgfepdfamhnppaaGsL5Holes
import Derived.Test.YtgfepdfamhnppaaGsL1In
import Derived.WalkKit
import Derived.WalkSpells
import Derived.WalkLawsBesides
import Derived.BigQuiet
import Derived.OwnWalk
import Derived.Deep.LoopGhost
import Derived.Deep.QuietTactic
import Derived.IntWalk
import Derived.Lib.QuietBelow
namespace Go.Proofs.Ytgfepdfamhnppaa.GsIsPair
set_option linter.unusedVariables false
set_option linter.unusedSimpArgs false
open Go.RowKit
open Go.Proofs.Ytgfepdfamhnppaa.Rowed Go.Proofs.Ytgfepdfamhnppaa.Turn Go.Proofs.Ytgfepdfamhnppaa.Aid Go.Proofs.Ytgfepdfamhnppaa.GoP Go.Proofs.Ytgfepdfamhnppaa.GoM

def l0 (a : (List Int)) (b : (List Int)) (off : Int) (s : Int) (nx0 bk0 : Int → Option (Bool × Bool)) : Option (Bool × Bool) :=
  letK s fun i_8l0 =>
  letK (decide (i_8l0 < (a.length : Int))) fun (t_28 : Bool) =>
  iteK t_28
  (Option.bind (idx a i_8l0) fun (yt_31 : Int) =>
  Option.bind (idx a 0) fun (yt_34 : Int) =>
  letK (IntKind.i64.wrap (yt_31 - yt_34)) fun (t_36 : Int) =>
  Option.bind (idx b i_8l0) fun (yt_39 : Int) =>
  letK (IntKind.i64.wrap (t_36 - yt_39)) fun (t_41 : Int) =>
  Option.bind (idx b 0) fun (yt_43 : Int) =>
  letK (IntKind.i64.wrap (t_41 + yt_43)) fun (t_45 : Int) =>
  letK (IntKind.i64.wrap (-off)) fun (t_47 : Int) =>
  Option.bind (Go.Proofs.Ytgfepdfamhnppaa.GsL1In.P t_45 t_47 off) fun (t_49 : Bool) =>
  letK (!t_49) fun (t_50 : Bool) =>
  iteK t_50
  (some (false, true))
  (letK (IntKind.i64.wrap (i_8l0 + 1)) fun (t_54 : Int) =>
  appK nx0 (t_54)))
  (appK bk0 (i_8l0))

def e0  (s : Int) : Option (Bool × Bool) :=
  letK s fun i_8l0 =>
  some (true, true)

def P (fuel : Nat) (a : (List Int)) (b : (List Int)) (off : Int) : Option (Bool × Bool) :=
  Option.bind (Go.Proofs.Ytgfepdfamhnppaa.GsL5Holes.P a) fun (t_3 : Bool) =>
  letK (!t_3) fun (t_4 : Bool) =>
  joinK (fun (t_9 : Bool) =>
  joinK (fun (t_16 : Bool) =>
  joinK (fun (t_21 : Bool) =>
  iteK t_21
  (some (false, false))
  (loopK (l0 a b off) fuel (1) (e0 ))) fun jt_21 => iteK t_16 (appK jt_21 true) (Option.bind (Go.Proofs.Ytgfepdfamhnppaa.GsL1In.P off 0 50) fun (t_19 : Bool) =>
  letK (!t_19) fun (t_20 : Bool) =>
  appK jt_21 t_20)) fun jt_16 => iteK t_9 (appK jt_16 true) (letK ((a.length : Int) != (b.length : Int)) fun (t_15 : Bool) =>
  appK jt_16 t_15)) fun jt_9 => iteK t_4 (appK jt_9 true) (Option.bind (Go.Proofs.Ytgfepdfamhnppaa.GsL5Holes.P b) fun (t_7 : Bool) =>
  letK (!t_7) fun (t_8 : Bool) =>
  appK jt_9 t_8)

set_option maxRecDepth 100000 in
set_option maxHeartbeats 2000000 in
theorem C (fuel : Nat) (a : (List Int)) (b : (List Int)) (off : Int) (A0 : Option Addr) (c0 : Nat) (A1 : Option Addr) (c1 : Nat)  (w : World) (M0 : Hid (Cells w 1 A0 a.length (Go.Proofs.Ytgfepdfamhnppaa.HelpInt.iv a))) (N0 : Hid (a.length ≤ 9223372036854775807)) (M1 : Hid (Cells w 1 A1 b.length (Go.Proofs.Ytgfepdfamhnppaa.HelpInt.iv b))) (N1 : Hid (b.length ≤ 9223372036854775807))  {r0 : Bool} {r1 : Bool} (H : Hid (P fuel a b off = some (r0, r1))) :
    Calls Try.prog 34 #[.slice A0 a.length c0, .slice A1 b.length c1, .int .i64 off] w (Gives (.tuple #[.bool r0, .bool r1]) w) := by
  have HB := Lib.hid (Below.refl w.heap.size w)
  unfold P at H
  have N0o := N0.out
  have N1o := N1.out
  go_enter Try.func34, Try.ntmps34
  replace H := bind_hid H
  obtain ⟨t_3, qt_3, H⟩ := H
  go_wp2_with fail
  go_at_call 47
  refine (Go.Proofs.Ytgfepdfamhnppaa.GsL5Holes.C (a) A0 c0 _  (Lib.hid (Cells.below M0.out HB.out)) N0 qt_3).mono ?_
  rintro e_t_3 wt_3 ⟨rfl, bt_3⟩
  have HBwt_3 := Lib.hid (Below.step HB.out bt_3)
  clear bt_3
  cases t_3 with
  | false =>
    replace H := let_hid H
    obtain ⟨t_4, ht_4, H⟩ := H
    obtain rfl : t_4 = true := ht_4.symm
    replace H := join_hid H
    replace H := ite_t H
    replace H := app_hid H
    replace H := join_hid H
    replace H := ite_t H
    replace H := app_hid H
    replace H := join_hid H
    replace H := ite_t H
    replace H := app_hid H
    replace H := ite_t H
    cases ret_hid H
    go_wp2_with fail
    go_ret2
    exact ⟨rfl, HBwt_3.out⟩
  | true =>
    replace H := let_hid H
    obtain ⟨t_4, ht_4, H⟩ := H
    obtain rfl : t_4 = false := ht_4.symm
    replace H := join_hid H
    replace H := ite_f H
    replace H := bind_hid H
    obtain ⟨t_7, qt_7, H⟩ := H
    go_wp2_with fail
    go_at_call 47
    refine (Go.Proofs.Ytgfepdfamhnppaa.GsL5Holes.C (b) A1 c1 _  (Lib.hid (Cells.below M1.out HBwt_3.out)) N1 qt_7).mono ?_
    rintro e_t_7 wt_7 ⟨rfl, bt_7⟩
    have HBwt_7 := Lib.hid (Below.step HBwt_3.out bt_7)
    clear bt_7
    cases t_7 with
    | false =>
      replace H := let_hid H
      obtain ⟨t_8, ht_8, H⟩ := H
      obtain rfl : t_8 = true := ht_8.symm
      replace H := app_hid H
      replace H := join_hid H
      replace H := ite_t H
      replace H := app_hid H
      replace H := join_hid H
      replace H := ite_t H
      replace H := app_hid H
      replace H := ite_t H
      cases ret_hid H
      go_wp2_with fail
      go_ret2
      exact ⟨rfl, HBwt_7.out⟩
    | true =>
      replace H := let_hid H
      obtain ⟨t_8, ht_8, H⟩ := H
      obtain rfl : t_8 = false := ht_8.symm
      replace H := app_hid H
      replace H := join_hid H
      replace H := ite_f H
      replace H := let_hid H
      obtain ⟨t_15, ht_15, H⟩ := H
      replace H := app_hid H
      replace H := join_hid H
      cases t_15 with
      | false =>
        have Hht_15 : Hid (a.length = b.length) := Lib.hid (by have := bne_eq_false_iff_eq.1 ht_15; omega)
        have nht_15 : (a.length == b.length) = true := beq_iff_eq.2 Hht_15.out
        replace H := ite_f H
        replace H := bind_hid H
        obtain ⟨t_19, qt_19, H⟩ := H
        go_wp2_with fail
        go_at_call 63
        refine (Go.Proofs.Ytgfepdfamhnppaa.GsL1In.C (off) (0) (50)  _   qt_19).mono ?_
        rintro e_t_19 wt_19 ⟨rfl, bt_19⟩
        have HBwt_19 := Lib.hid (Below.step HBwt_7.out bt_19)
        clear bt_19
        cases t_19 with
        | false =>
          replace H := let_hid H
          obtain ⟨t_20, ht_20, H⟩ := H
          obtain rfl : t_20 = true := ht_20.symm
          replace H := app_hid H
          replace H := ite_t H
          cases ret_hid H
          go_wp2_with fail
          go_ret2
          exact ⟨rfl, HBwt_19.out⟩
        | true =>
          replace H := let_hid H
          obtain ⟨t_20, ht_20, H⟩ := H
          obtain rfl : t_20 = false := ht_20.symm
          replace H := app_hid H
          replace H := ite_f H
          go_wp2_with fail
          go_loopg [8] (fuel) (fun m_ v8_ wr => ∃ (i_8l0 : Int), v8_ = .int .i64 i_8l0 ∧ Hid (loopK (l0 a b off) m_ (i_8l0) (e0 ) = some (r0, r1)) ∧ Hid (Below w.heap.size w wr))
          case atStart => exact ⟨_, rfl, H, HBwt_19⟩
          case round =>
            obtain ⟨i_8l0, rfl, H, HBwr0⟩ := hrel
            rename World => wr0
            cases gk with
            | zero => exact (loop_zero H).elim
            | succ m0 =>
              replace H := loop_succ H
              unfold l0 at H
              replace H := let_hid H
              obtain ⟨_, rfl, H⟩ := H
              replace H := let_hid H
              obtain ⟨t_28, ht_28, H⟩ := H
              cases t_28 with
              | false =>
                replace H := ite_f H
                replace H := app_hid H
                unfold e0 at H
                replace H := let_hid H
                obtain ⟨_, rfl, H⟩ := H
                cases ret_hid H
                go_wp2_with fail
                go_ret2
                exact ⟨rfl, HBwr0.out⟩
              | true =>
                replace H := ite_t H
                go_wp2_with fail
                replace H := idx_hid H
                obtain ⟨nt_31, yt_31, et_31, lt_31, gt_31, H⟩ := H
                subst et_31
                obtain ⟨ab_t_31, ao_t_31, zt_31, At_31, z_t_31, ct_31_0⟩ := Go.Proofs.Ytgfepdfamhnppaa.HelpInt.Ints.at_ M0.out lt_31
                obtain rfl := Option.some.inj (gt_31.out.symm.trans z_t_31)
                subst At_31
                have ltt_31 := cell_lt ct_31_0
                replace ct_31_0 := cell_below HBwr0.out ct_31_0
                clear z_t_31
                have b0t_31 : (0 : Int) ≤ (nt_31 : Int) := by omega
                have b1t_31 : (nt_31 : Int) < ((a.length : Nat) : Int) := by omega
                have b2t_31 : ((nt_31 : Int)).toNat = nt_31 := by omega
                have Hct_31_0 := Lib.hid ct_31_0
                replace ct_31_0 := cell_regrown ct_31_0
                replace H := idx_hid H
                obtain ⟨nt_34, yt_34, et_34, lt_34, gt_34, H⟩ := H
                obtain rfl : 0 = nt_34 := by omega
                clear et_34
                obtain ⟨ab_t_34, ao_t_34, zt_34, At_34, z_t_34, ct_34_0⟩ := Go.Proofs.Ytgfepdfamhnppaa.HelpInt.Ints.at_ M0.out lt_34
                obtain rfl := Option.some.inj (gt_34.out.symm.trans z_t_34)
                simp only [Option.some.injEq, Addr.mk.injEq] at At_34
                obtain ⟨rfl, rfl, _⟩ := At_34
                have ltt_34 := cell_lt ct_34_0
                replace ct_34_0 := cell_below HBwr0.out ct_34_0
                clear z_t_34
                have b1t_34 : (0 : Int) < ((a.length : Nat) : Int) := by omega
                have b3t_34 : 0 < a.length := by omega
                simp only [Nat.zero_mul, Nat.add_zero, Nat.zero_add, Nat.reduceMul] at ct_34_0
                have Hct_34_0 := Lib.hid ct_34_0
                replace ct_34_0 := cell_regrown ct_34_0
                replace H := let_hid H
                obtain ⟨t_36, ht_36, H⟩ := H
                replace H := idx_hid H
                obtain ⟨nt_39, yt_39, et_39, lt_39, gt_39, H⟩ := H
                obtain rfl : nt_31 = nt_39 := by omega
                clear et_39
                obtain ⟨ab_t_39, ao_t_39, zt_39, At_39, z_t_39, ct_39_0⟩ := Go.Proofs.Ytgfepdfamhnppaa.HelpInt.Ints.at_ M1.out lt_39
                obtain rfl := Option.some.inj (gt_39.out.symm.trans z_t_39)
                subst At_39
                have ltt_39 := cell_lt ct_39_0
                replace ct_39_0 := cell_below HBwr0.out ct_39_0
                clear z_t_39
                have b0t_39 : (0 : Int) ≤ (nt_31 : Int) := by omega
                have b1t_39 : (nt_31 : Int) < ((b.length : Nat) : Int) := by omega
                have b2t_39 : ((nt_31 : Int)).toNat = nt_31 := by omega
                have Hct_39_0 := Lib.hid ct_39_0
                replace ct_39_0 := cell_regrown ct_39_0
                replace H := let_hid H
                obtain ⟨t_41, ht_41, H⟩ := H
                replace H := idx_hid H
                obtain ⟨nt_43, yt_43, et_43, lt_43, gt_43, H⟩ := H
                obtain rfl : 0 = nt_43 := by omega
                clear et_43
                obtain ⟨ab_t_43, ao_t_43, zt_43, At_43, z_t_43, ct_43_0⟩ := Go.Proofs.Ytgfepdfamhnppaa.HelpInt.Ints.at_ M1.out lt_43
                obtain rfl := Option.some.inj (gt_43.out.symm.trans z_t_43)
                simp only [Option.some.injEq, Addr.mk.injEq] at At_43
                obtain ⟨rfl, rfl, _⟩ := At_43
                have ltt_43 := cell_lt ct_43_0
                replace ct_43_0 := cell_below HBwr0.out ct_43_0
                clear z_t_43
                have b1t_43 : (0 : Int) < ((b.length : Nat) : Int) := by omega
                have b3t_43 : 0 < b.length := by omega
                simp only [Nat.zero_mul, Nat.add_zero, Nat.zero_add, Nat.reduceMul] at ct_43_0
                have Hct_43_0 := Lib.hid ct_43_0
                replace ct_43_0 := cell_regrown ct_43_0
                replace H := let_hid H
                obtain ⟨t_45, ht_45, H⟩ := H
                replace H := let_hid H
                obtain ⟨t_47, ht_47, H⟩ := H
                replace H := bind_hid H
                obtain ⟨t_49, qt_49, H⟩ := H
                have nt_49 : ∀ d os, Calls Try.prog 63 #[.int .i64 t_45, .int .i64 t_47, .int .i64 off] (Go.Sort.grow (redrawn wr0 d) os) fun e w'' => e = .returned (.bool t_49) ∧ ∃ p : Regrown, w'' = Go.Sort.grow (redrawn wr0 p.d) p.os := fun d os => Calls.regrown_of (Go.Proofs.Ytgfepdfamhnppaa.GsL1In.C (t_45) (t_47) (off)  _   qt_49)
                cases t_49 with
                | false =>
                  replace H := let_hid H
                  obtain ⟨t_50, ht_50, H⟩ := H
                  obtain rfl : t_50 = true := ht_50.symm
                  refine wp_region_quiet_below (by kernel_rfl) (by kernel_rfl) ?_
                  repeat (go_big_quiet_step (first | (go_at_call 63; exact nt_49 _ _)))
                  refine wpQuiet_nil ?_
                  intro Y6 hY6
                  replace hY6 := below_class hY6
                  clear nt_49
                  replace ct_31_0 := Hct_31_0.out
                  clear Hct_31_0
                  replace ct_34_0 := Hct_34_0.out
                  clear Hct_34_0
                  replace ct_39_0 := Hct_39_0.out
                  clear Hct_39_0
                  replace ct_43_0 := Hct_43_0.out
                  clear Hct_43_0
                  have HBY6 := Lib.hid (Below.step HBwr0.out hY6)
                  replace ct_31_0 := cell_below hY6 ct_31_0
                  replace ct_34_0 := cell_below hY6 ct_34_0
                  replace ct_39_0 := cell_below hY6 ct_39_0
                  replace ct_43_0 := cell_below hY6 ct_43_0
                  clear hY6
                  replace H := ite_t H
                  cases ret_hid H
                  go_wp2_with fail
                  go_ret2
                  exact ⟨rfl, HBY6.out⟩
                | true =>
                  replace H := let_hid H
                  obtain ⟨t_50, ht_50, H⟩ := H
                  obtain rfl : t_50 = false := ht_50.symm
                  refine wp_region_quiet_below (by kernel_rfl) (by kernel_rfl) ?_
                  repeat (go_big_quiet_step (first | (go_at_call 63; exact nt_49 _ _)))
                  refine wpQuiet_nil ?_
                  intro Y6 hY6
                  replace hY6 := below_class hY6
                  clear nt_49
                  replace ct_31_0 := Hct_31_0.out
                  clear Hct_31_0
                  replace ct_34_0 := Hct_34_0.out
                  clear Hct_34_0
                  replace ct_39_0 := Hct_39_0.out
                  clear Hct_39_0
                  replace ct_43_0 := Hct_43_0.out
                  clear Hct_43_0
                  have HBY6 := Lib.hid (Below.step HBwr0.out hY6)
                  replace ct_31_0 := cell_below hY6 ct_31_0
                  replace ct_34_0 := cell_below hY6 ct_34_0
                  replace ct_39_0 := cell_below hY6 ct_39_0
                  replace ct_43_0 := cell_below hY6 ct_43_0
                  clear hY6
                  replace H := ite_f H
                  replace H := let_hid H
                  obtain ⟨t_54, ht_54, H⟩ := H
                  replace H := app_hid H
                  go_wp2_with fail
                  go_roundg m0
                  case measure => omega
                  case rel => exact ⟨_, rfl, H, HBY6⟩
      | true =>
        have nht_15 : ¬ (a.length = b.length) := by have := bne_iff_ne.1 ht_15; omega
        replace H := ite_t H
        replace H := app_hid H
        replace H := ite_t H
        cases ret_hid H
        go_wp2_with fail
        go_ret2
        exact ⟨rfl, HBwt_7.out⟩
end Go.Proofs.Ytgfepdfamhnppaa.GsIsPair
