/- loop.example/g01062/impl.IsPair as a plain function, and the contract of the program's: where the plain one has an answer, the program has it. Conditions: slices read as lists. -/
import Derived.Test.YtgfepdfamhnppaaChecked
import Derived.Test.YtgfepdfamhnppaaGoM
import Derived.Test.YtgfepdfamhnppaaHelpInt
import Derived.Test.YtgfepdfamhnppaaGiAreHoles
import Derived.Test.YtgfepdfamhnppaaGiWithin
import Derived.WalkKit
import Derived.WalkSpells
import Derived.WalkLawsBesides
import Derived.BigQuiet
import Derived.OwnWalk
import Derived.Deep.LoopGhost
import Derived.Deep.QuietTactic
import Derived.IntWalk
import Derived.Lib.QuietBelow
namespace Go.Proofs.Ytgfepdfamhnppaa.GiIsPair
set_option linter.unusedVariables false
set_option linter.unusedSimpArgs false
open Go.RowKit
open Go.Proofs.Ytgfepdfamhnppaa.Rowed Go.Proofs.Ytgfepdfamhnppaa.Turn Go.Proofs.Ytgfepdfamhnppaa.Aid Go.Proofs.Ytgfepdfamhnppaa.GoP Go.Proofs.Ytgfepdfamhnppaa.GoM

def l0 (a : (List Int)) (b : (List Int)) (off : Int) (k0 : Nat) (s : Unit) (nx0 bk0 : Unit → Option (Bool × Bool)) : Option (Bool × Bool) :=
  
  Option.bind (idx a (k0 : Int)) fun (yt_32 : Int) =>
  Option.bind (idx a 0) fun (yt_35 : Int) =>
  letK (IntKind.i64.wrap (yt_32 - yt_35)) fun (t_37 : Int) =>
  Option.bind (idx b (k0 : Int)) fun (yt_40 : Int) =>
  Option.bind (idx b 0) fun (yt_43 : Int) =>
  letK (IntKind.i64.wrap (yt_40 - yt_43)) fun (t_45 : Int) =>
  letK (IntKind.i64.wrap (t_37 - t_45)) fun (t_46 : Int) =>
  letK (IntKind.i64.wrap (-off)) fun (t_48 : Int) =>
  Option.bind (Go.Proofs.Ytgfepdfamhnppaa.GiWithin.P t_46 t_48 off) fun (t_50 : Bool) =>
  letK (!t_50) fun (t_51 : Bool) =>
  iteK t_51
  (some (false, true))
  (appK nx0 ())

def e0  (s : Unit) : Option (Bool × Bool) :=
  
  some (true, true)

def P (a : (List Int)) (b : (List Int)) (off : Int) : Option (Bool × Bool) :=
  Option.bind (Go.Proofs.Ytgfepdfamhnppaa.GiAreHoles.P a) fun (t_3 : Bool) =>
  letK (!t_3) fun (t_4 : Bool) =>
  joinK (fun (t_9 : Bool) =>
  joinK (fun (t_16 : Bool) =>
  joinK (fun (t_21 : Bool) =>
  iteK t_21
  (some (false, false))
  (cntK (l0 a b off) (a.length) 0 () (e0 ))) fun jt_21 => iteK t_16 (appK jt_21 true) (Option.bind (Go.Proofs.Ytgfepdfamhnppaa.GiWithin.P off 0 50) fun (t_19 : Bool) =>
  letK (!t_19) fun (t_20 : Bool) =>
  appK jt_21 t_20)) fun jt_16 => iteK t_9 (appK jt_16 true) (letK ((a.length : Int) != (b.length : Int)) fun (t_15 : Bool) =>
  appK jt_16 t_15)) fun jt_9 => iteK t_4 (appK jt_9 true) (Option.bind (Go.Proofs.Ytgfepdfamhnppaa.GiAreHoles.P b) fun (t_7 : Bool) =>
  letK (!t_7) fun (t_8 : Bool) =>
  appK jt_9 t_8)

set_option maxRecDepth 100000 in
set_option maxHeartbeats 2000000 in
theorem C (a : (List Int)) (b : (List Int)) (off : Int) (A0 : Option Addr) (c0 : Nat) (A1 : Option Addr) (c1 : Nat)  (w : World) (M0 : Hid (Cells w 1 A0 a.length (Go.Proofs.Ytgfepdfamhnppaa.HelpInt.iv a))) (N0 : Hid (a.length ≤ 9223372036854775807)) (M1 : Hid (Cells w 1 A1 b.length (Go.Proofs.Ytgfepdfamhnppaa.HelpInt.iv b))) (N1 : Hid (b.length ≤ 9223372036854775807))  {r0 : Bool} {r1 : Bool} (H : Hid (P a b off = some (r0, r1))) :
    Calls Try.prog 35 #[.slice A0 a.length c0, .slice A1 b.length c1, .int .i64 off] w (Gives (.tuple #[.bool r0, .bool r1]) w) := by
  have HB := Lib.hid (Below.refl w.heap.size w)
  unfold P at H
  have N0o := N0.out
  have N1o := N1.out
  go_enter Try.func35, Try.ntmps35
  replace H := bind_hid H
  obtain ⟨t_3, qt_3, H⟩ := H
  go_wp2_with fail
  go_at_call 49
  refine (Go.Proofs.Ytgfepdfamhnppaa.GiAreHoles.C (a) A0 c0 _  (Lib.hid (Cells.below M0.out HB.out)) N0 qt_3).mono ?_
  rintro e_t_3 wt_3 ⟨rfl, bt_3⟩
  have HBwt_3 := Lib.hid (Below.step HB.out bt_3)
  clear bt_3
  cases t_3 with
  | false =>
    replace H := let_hid H
    obtain ⟨t_4, ht_4, H⟩ := H
    obtain rfl : t_4 = true := ht_4.symm
    replace H := join_hid H
    replace H := ite_t H
    replace H := app_hid H
    replace H := join_hid H
    replace H := ite_t H
    replace H := app_hid H
    replace H := join_hid H
    replace H := ite_t H
    replace H := app_hid H
    replace H := ite_t H
    cases ret_hid H
    go_wp2_with fail
    go_ret2
    exact ⟨rfl, HBwt_3.out⟩
  | true =>
    replace H := let_hid H
    obtain ⟨t_4, ht_4, H⟩ := H
    obtain rfl : t_4 = false := ht_4.symm
    replace H := join_hid H
    replace H := ite_f H
    replace H := bind_hid H
    obtain ⟨t_7, qt_7, H⟩ := H
    go_wp2_with fail
    go_at_call 49
    refine (Go.Proofs.Ytgfepdfamhnppaa.GiAreHoles.C (b) A1 c1 _  (Lib.hid (Cells.below M1.out HBwt_3.out)) N1 qt_7).mono ?_
    rintro e_t_7 wt_7 ⟨rfl, bt_7⟩
    have HBwt_7 := Lib.hid (Below.step HBwt_3.out bt_7)
    clear bt_7
    cases t_7 with
    | false =>
      replace H := let_hid H
      obtain ⟨t_8, ht_8, H⟩ := H
      obtain rfl : t_8 = true := ht_8.symm
      replace H := app_hid H
      replace H := join_hid H
      replace H := ite_t H
      replace H := app_hid H
      replace H := join_hid H
      replace H := ite_t H
      replace H := app_hid H
      replace H := ite_t H
      cases ret_hid H
      go_wp2_with fail
      go_ret2
      exact ⟨rfl, HBwt_7.out⟩
    | true =>
      replace H := let_hid H
      obtain ⟨t_8, ht_8, H⟩ := H
      obtain rfl : t_8 = false := ht_8.symm
      replace H := app_hid H
      replace H := join_hid H
      replace H := ite_f H
      replace H := let_hid H
      obtain ⟨t_15, ht_15, H⟩ := H
      replace H := app_hid H
      replace H := join_hid H
      cases t_15 with
      | false =>
        have Hht_15 : Hid (a.length = b.length) := Lib.hid (by have := bne_eq_false_iff_eq.1 ht_15; omega)
        have nht_15 : (a.length == b.length) = true := beq_iff_eq.2 Hht_15.out
        replace H := ite_f H
        replace H := bind_hid H
        obtain ⟨t_19, qt_19, H⟩ := H
        go_wp2_with fail
        go_at_call 64
        refine (Go.Proofs.Ytgfepdfamhnppaa.GiWithin.C (off) (0) (50)  _   qt_19).mono ?_
        rintro e_t_19 wt_19 ⟨rfl, bt_19⟩
        have HBwt_19 := Lib.hid (Below.step HBwt_7.out bt_19)
        clear bt_19
        cases t_19 with
        | false =>
          replace H := let_hid H
          obtain ⟨t_20, ht_20, H⟩ := H
          obtain rfl : t_20 = true := ht_20.symm
          replace H := app_hid H
          replace H := ite_t H
          cases ret_hid H
          go_wp2_with fail
          go_ret2
          exact ⟨rfl, HBwt_19.out⟩
        | true =>
          replace H := let_hid H
          obtain ⟨t_20, ht_20, H⟩ := H
          obtain rfl : t_20 = false := ht_20.symm
          replace H := app_hid H
          replace H := ite_f H
          go_wp2_with fail
          go_loopg [31] (a.length) (fun m_ v31_ wr => ∃ (k0 : Nat) , k0 + m_ = a.length ∧ v31_ = .int .i64 (k0 : Int) ∧ Hid (cntK (l0 a b off) m_ k0 () (e0 ) = some (r0, r1)) ∧ Hid (Below w.heap.size w wr))
          case atStart => exact ⟨0, by omega, rfl, H, HBwt_19⟩
          case round =>
            obtain ⟨k0, hkm0, rfl, H, HBwr0⟩ := hrel
            rename World => wr0
            cases gk with
            | zero =>
              obtain rfl : k0 = a.length := by omega
              have hc0 : decide (((a.length : Nat) : Int) < ((a.length : Nat) : Int)) = false := by simp
              replace H := cnt_zero H
              unfold e0 at H
              cases ret_hid H
              go_wp2_with fail
              go_ret2
              exact ⟨rfl, HBwr0.out⟩
            | succ m0 =>
              have hlt0 : k0 < a.length := by omega
              have hc0 : decide ((k0 : Int) < ((a.length : Nat) : Int)) = true := by simp; omega
              replace H := cnt_succ H
              unfold l0 at H
              go_wp2_with fail
              replace H := idx_hid H
              obtain ⟨nt_32, yt_32, et_32, lt_32, gt_32, H⟩ := H
              obtain rfl : k0 = nt_32 := by omega
              clear et_32
              obtain ⟨ab_t_32, ao_t_32, zt_32, At_32, z_t_32, ct_32_0⟩ := Go.Proofs.Ytgfepdfamhnppaa.HelpInt.Ints.at_ M0.out lt_32
              obtain rfl := Option.some.inj (gt_32.out.symm.trans z_t_32)
              subst At_32
              have ltt_32 := cell_lt ct_32_0
              replace ct_32_0 := cell_below HBwr0.out ct_32_0
              clear z_t_32
              have b0t_32 : (0 : Int) ≤ (k0 : Int) := by omega
              have b1t_32 : (k0 : Int) < ((a.length : Nat) : Int) := by omega
              have b2t_32 : ((k0 : Int)).toNat = k0 := by omega
              have Hct_32_0 := Lib.hid ct_32_0
              replace ct_32_0 := cell_regrown ct_32_0
              replace H := idx_hid H
              obtain ⟨nt_35, yt_35, et_35, lt_35, gt_35, H⟩ := H
              obtain rfl : 0 = nt_35 := by omega
              clear et_35
              obtain ⟨ab_t_35, ao_t_35, zt_35, At_35, z_t_35, ct_35_0⟩ := Go.Proofs.Ytgfepdfamhnppaa.HelpInt.Ints.at_ M0.out lt_35
              obtain rfl := Option.some.inj (gt_35.out.symm.trans z_t_35)
              simp only [Option.some.injEq, Addr.mk.injEq] at At_35
              obtain ⟨rfl, rfl, _⟩ := At_35
              have ltt_35 := cell_lt ct_35_0
              replace ct_35_0 := cell_below HBwr0.out ct_35_0
              clear z_t_35
              have b1t_35 : (0 : Int) < ((a.length : Nat) : Int) := by omega
              have b3t_35 : 0 < a.length := by omega
              simp only [Nat.zero_mul, Nat.add_zero, Nat.zero_add, Nat.reduceMul] at ct_35_0
              have Hct_35_0 := Lib.hid ct_35_0
              replace ct_35_0 := cell_regrown ct_35_0
              replace H := let_hid H
              obtain ⟨t_37, ht_37, H⟩ := H
              replace H := idx_hid H
              obtain ⟨nt_40, yt_40, et_40, lt_40, gt_40, H⟩ := H
              obtain rfl : k0 = nt_40 := by omega
              clear et_40
              obtain ⟨ab_t_40, ao_t_40, zt_40, At_40, z_t_40, ct_40_0⟩ := Go.Proofs.Ytgfepdfamhnppaa.HelpInt.Ints.at_ M1.out lt_40
              obtain rfl := Option.some.inj (gt_40.out.symm.trans z_t_40)
              subst At_40
              have ltt_40 := cell_lt ct_40_0
              replace ct_40_0 := cell_below HBwr0.out ct_40_0
              clear z_t_40
              have b0t_40 : (0 : Int) ≤ (k0 : Int) := by omega
              have b1t_40 : (k0 : Int) < ((b.length : Nat) : Int) := by omega
              have b2t_40 : ((k0 : Int)).toNat = k0 := by omega
              have Hct_40_0 := Lib.hid ct_40_0
              replace ct_40_0 := cell_regrown ct_40_0
              replace H := idx_hid H
              obtain ⟨nt_43, yt_43, et_43, lt_43, gt_43, H⟩ := H
              obtain rfl : 0 = nt_43 := by omega
              clear et_43
              obtain ⟨ab_t_43, ao_t_43, zt_43, At_43, z_t_43, ct_43_0⟩ := Go.Proofs.Ytgfepdfamhnppaa.HelpInt.Ints.at_ M1.out lt_43
              obtain rfl := Option.some.inj (gt_43.out.symm.trans z_t_43)
              simp only [Option.some.injEq, Addr.mk.injEq] at At_43
              obtain ⟨rfl, rfl, _⟩ := At_43
              have ltt_43 := cell_lt ct_43_0
              replace ct_43_0 := cell_below HBwr0.out ct_43_0
              clear z_t_43
              have b1t_43 : (0 : Int) < ((b.length : Nat) : Int) := by omega
              have b3t_43 : 0 < b.length := by omega
              simp only [Nat.zero_mul, Nat.add_zero, Nat.zero_add, Nat.reduceMul] at ct_43_0
              have Hct_43_0 := Lib.hid ct_43_0
              replace ct_43_0 := cell_regrown ct_43_0
              replace H := let_hid H
              obtain ⟨t_45, ht_45, H⟩ := H
              replace H := let_hid H
              obtain ⟨t_46, ht_46, H⟩ := H
              replace H := let_hid H
              obtain ⟨t_48, ht_48, H⟩ := H
              replace H := bind_hid H
              obtain ⟨t_50, qt_50, H⟩ := H
              have nt_50 : ∀ d os, Calls Try.prog 64 #[.int .i64 t_46, .int .i64 t_48, .int .i64 off] (Go.Sort.grow (redrawn wr0 d) os) fun e w'' => e = .returned (.bool t_50) ∧ ∃ p : Regrown, w'' = Go.Sort.grow (redrawn wr0 p.d) p.os := fun d os => Calls.regrown_of (Go.Proofs.Ytgfepdfamhnppaa.GiWithin.C (t_46) (t_48) (off)  _   qt_50)
              cases t_50 with
              | false =>
                replace H := let_hid H
                obtain ⟨t_51, ht_51, H⟩ := H
                obtain rfl : t_51 = true := ht_51.symm
                refine wp_region_quiet_below (by kernel_rfl) (by kernel_rfl) ?_
                repeat (go_big_quiet_step (first | (go_at_call 64; exact nt_50 _ _)))
                refine wpQuiet_nil ?_
                intro Y6 hY6
                replace hY6 := below_class hY6
                clear nt_50
                replace ct_32_0 := Hct_32_0.out
                clear Hct_32_0
                replace ct_35_0 := Hct_35_0.out
                clear Hct_35_0
                replace ct_40_0 := Hct_40_0.out
                clear Hct_40_0
                replace ct_43_0 := Hct_43_0.out
                clear Hct_43_0
                have HBY6 := Lib.hid (Below.step HBwr0.out hY6)
                replace ct_32_0 := cell_below hY6 ct_32_0
                replace ct_35_0 := cell_below hY6 ct_35_0
                replace ct_40_0 := cell_below hY6 ct_40_0
                replace ct_43_0 := cell_below hY6 ct_43_0
                clear hY6
                replace H := ite_t H
                cases ret_hid H
                go_wp2_with fail
                go_ret2
                exact ⟨rfl, HBY6.out⟩
              | true =>
                replace H := let_hid H
                obtain ⟨t_51, ht_51, H⟩ := H
                obtain rfl : t_51 = false := ht_51.symm
                refine wp_region_quiet_below (by kernel_rfl) (by kernel_rfl) ?_
                repeat (go_big_quiet_step (first | (go_at_call 64; exact nt_50 _ _)))
                refine wpQuiet_nil ?_
                intro Y6 hY6
                replace hY6 := below_class hY6
                clear nt_50
                replace ct_32_0 := Hct_32_0.out
                clear Hct_32_0
                replace ct_35_0 := Hct_35_0.out
                clear Hct_35_0
                replace ct_40_0 := Hct_40_0.out
                clear Hct_40_0
                replace ct_43_0 := Hct_43_0.out
                clear Hct_43_0
                have HBY6 := Lib.hid (Below.step HBwr0.out hY6)
                replace ct_32_0 := cell_below hY6 ct_32_0
                replace ct_35_0 := cell_below hY6 ct_35_0
                replace ct_40_0 := cell_below hY6 ct_40_0
                replace ct_43_0 := cell_below hY6 ct_43_0
                clear hY6
                replace H := ite_f H
                replace H := app_hid H
                go_wp2_with fail
                go_roundg m0
                case measure => omega
                case rel => exact ⟨k0 + 1, by omega, by go_num, H, HBY6⟩
      | true =>
        have nht_15 : ¬ (a.length = b.length) := by have := bne_iff_ne.1 ht_15; omega
        replace H := ite_t H
        replace H := app_hid H
        replace H := ite_t H
        cases ret_hid H
        go_wp2_with fail
        go_ret2
        exact ⟨rfl, HBwt_7.out⟩
end Go.Proofs.Ytgfepdfamhnppaa.GiIsPair
