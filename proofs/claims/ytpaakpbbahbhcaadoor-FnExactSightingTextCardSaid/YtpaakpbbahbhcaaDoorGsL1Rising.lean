/- loop.example/g01062/spec.l1Rising as a plain function, and the contract of the program's: where the plain one has an answer, the program has it. Conditions: slices read as lists. -/
import Derived.Test.YtpaakpbbahbhcaaDoorChecked
import Derived.Test.YtpaakpbbahbhcaaDoorGoM
import Derived.Test.YtpaakpbbahbhcaaDoorHelpInt
import Derived.Test.YtpaakpbbahbhcaaDoorGsL1In
import Derived.WalkKit
import Derived.WalkSpells
import Derived.WalkLawsBesides
import Derived.BigQuiet
import Derived.OwnWalk
import Derived.Deep.LoopGhost
import Derived.Deep.QuietTactic
import Derived.IntWalk
import Derived.Lib.QuietBelow
namespace Go.Proofs.YtpaakpbbahbhcaaDoor.GsL1Rising
set_option linter.unusedVariables false
set_option linter.unusedSimpArgs false
open Go.RowKit
open Go.Proofs.YtpaakpbbahbhcaaDoor.Rowed Go.Proofs.YtpaakpbbahbhcaaDoor.Turn Go.Proofs.YtpaakpbbahbhcaaDoor.Aid Go.Proofs.YtpaakpbbahbhcaaDoor.GoP Go.Proofs.YtpaakpbbahbhcaaDoor.GoM

def l0 (l : (List Int)) (lo : Int) (hi : Int) (k0 : Nat) (s : Unit) (nx0 bk0 : Unit → Option (Bool)) : Option (Bool) :=
  
  Option.bind (idx l (k0 : Int)) fun (yt_8 : Int) =>
  Option.bind (Go.Proofs.YtpaakpbbahbhcaaDoor.GsL1In.P yt_8 lo hi) fun (t_12 : Bool) =>
  letK (!t_12) fun (t_13 : Bool) =>
  joinK (fun (t_29 : Bool) =>
  iteK t_29
  (some false)
  (appK nx0 ())) fun jt_29 => iteK t_13 (appK jt_29 true) (letK (decide (0 < (k0 : Int))) fun (t_16 : Bool) =>
  joinK (fun (t_28 : Bool) =>
  appK jt_29 t_28) fun jt_28 => iteK t_16 (letK (IntKind.i64.wrap ((k0 : Int) - 1)) fun (t_20 : Int) =>
  Option.bind (idx l t_20) fun (yt_21 : Int) =>
  Option.bind (idx l (k0 : Int)) fun (yt_25 : Int) =>
  letK (decide (yt_25 ≤ yt_21)) fun (t_27 : Bool) =>
  appK jt_28 t_27) (appK jt_28 false))

def e0  (s : Unit) : Option (Bool) :=
  
  some true

def P (l : (List Int)) (lo : Int) (hi : Int) : Option (Bool) :=
  cntK (l0 l lo hi) (l.length) 0 () (e0 )

set_option maxRecDepth 100000 in
set_option maxHeartbeats 2000000 in
theorem C (l : (List Int)) (lo : Int) (hi : Int) (A0 : Option Addr) (c0 : Nat)  (w : World) (M0 : Hid (Cells w 1 A0 l.length (Go.Proofs.YtpaakpbbahbhcaaDoor.HelpInt.iv l))) (N0 : Hid (l.length ≤ 9223372036854775807))  {r : Bool} (H : Hid (P l lo hi = some r)) :
    Calls Tryd.prog 18 #[.slice A0 l.length c0, .int .i64 lo, .int .i64 hi] w (Gives (.bool r) w) := by
  have HB := Lib.hid (Below.refl w.heap.size w)
  unfold P at H
  have N0o := N0.out
  go_enter Tryd.func18, Tryd.ntmps18
  go_wp2_with fail
  go_loopg [7] (l.length) (fun m_ v7_ wr => ∃ (k0 : Nat) , k0 + m_ = l.length ∧ v7_ = .int .i64 (k0 : Int) ∧ Hid (cntK (l0 l lo hi) m_ k0 () (e0 ) = some r) ∧ Hid (Below w.heap.size w wr))
  case atStart => exact ⟨0, by omega, rfl, H, HB⟩
  case round =>
    obtain ⟨k0, hkm0, rfl, H, HBwr0⟩ := hrel
    rename World => wr0
    cases gk with
    | zero =>
      obtain rfl : k0 = l.length := by omega
      have hc0 : decide (((l.length : Nat) : Int) < ((l.length : Nat) : Int)) = false := by simp
      replace H := cnt_zero H
      unfold e0 at H
      obtain rfl := ret_hid H
      go_wp2_with fail
      go_ret
      exact ⟨rfl, HBwr0.out⟩
    | succ m0 =>
      have hlt0 : k0 < l.length := by omega
      have hc0 : decide ((k0 : Int) < ((l.length : Nat) : Int)) = true := by simp; omega
      replace H := cnt_succ H
      unfold l0 at H
      go_wp2_with fail
      replace H := idx_hid H
      obtain ⟨nt_8, yt_8, et_8, lt_8, gt_8, H⟩ := H
      obtain rfl : k0 = nt_8 := by omega
      clear et_8
      obtain ⟨ab_t_8, ao_t_8, zt_8, At_8, z_t_8, ct_8_0⟩ := Go.Proofs.YtpaakpbbahbhcaaDoor.HelpInt.Ints.at_ M0.out lt_8
      obtain rfl := Option.some.inj (gt_8.out.symm.trans z_t_8)
      subst At_8
      have ltt_8 := cell_lt ct_8_0
      replace ct_8_0 := cell_below HBwr0.out ct_8_0
      clear z_t_8
      have b0t_8 : (0 : Int) ≤ (k0 : Int) := by omega
      have b1t_8 : (k0 : Int) < ((l.length : Nat) : Int) := by omega
      have b2t_8 : ((k0 : Int)).toNat = k0 := by omega
      have Hct_8_0 := Lib.hid ct_8_0
      replace ct_8_0 := cell_regrown ct_8_0
      replace H := bind_hid H
      obtain ⟨t_12, qt_12, H⟩ := H
      have nt_12 : ∀ d os, Calls Tryd.prog 16 #[.int .i64 yt_8, .int .i64 lo, .int .i64 hi] (Go.Sort.grow (redrawn wr0 d) os) fun e w'' => e = .returned (.bool t_12) ∧ ∃ p : Regrown, w'' = Go.Sort.grow (redrawn wr0 p.d) p.os := fun d os => Calls.regrown_of (Go.Proofs.YtpaakpbbahbhcaaDoor.GsL1In.C (yt_8) (lo) (hi)  _    qt_12)
      cases t_12 with
      | false =>
        replace H := let_hid H
        obtain ⟨t_13, ht_13, H⟩ := H
        obtain rfl : t_13 = true := ht_13.symm
        replace H := join_hid H
        replace H := ite_t H
        replace H := app_hid H
        refine wp_region_quiet_below (by kernel_rfl) (by kernel_rfl) ?_
        repeat (go_big_quiet_step (first | (go_at_call 16; exact nt_12 _ _)))
        refine wpQuiet_nil ?_
        intro Y4 hY4
        replace hY4 := below_class hY4
        clear nt_12
        replace ct_8_0 := Hct_8_0.out
        clear Hct_8_0
        have HBY4 := Lib.hid (Below.step HBwr0.out hY4)
        replace ct_8_0 := cell_below hY4 ct_8_0
        clear hY4
        replace H := ite_t H
        obtain rfl := ret_hid H
        go_wp2_with fail
        go_ret
        exact ⟨rfl, HBY4.out⟩
      | true =>
        replace H := let_hid H
        obtain ⟨t_13, ht_13, H⟩ := H
        obtain rfl : t_13 = false := ht_13.symm
        replace H := join_hid H
        replace H := ite_f H
        replace H := let_hid H
        obtain ⟨t_16, ht_16, H⟩ := H
        replace H := join_hid H
        cases t_16 with
        | false =>
          have nht_16 : ¬ (0 < k0) := by have := of_decide_eq_false ht_16; omega
          replace H := ite_f H
          replace H := app_hid H
          replace H := app_hid H
          refine wp_region_quiet_below (by kernel_rfl) (by kernel_rfl) ?_
          repeat (go_big_quiet_step (first | (go_at_call 16; exact nt_12 _ _)))
          refine wpQuiet_nil ?_
          intro Y4 hY4
          replace hY4 := below_class hY4
          clear nt_12
          replace ct_8_0 := Hct_8_0.out
          clear Hct_8_0
          have HBY4 := Lib.hid (Below.step HBwr0.out hY4)
          replace ct_8_0 := cell_below hY4 ct_8_0
          clear hY4
          replace H := ite_f H
          replace H := app_hid H
          go_wp2_with fail
          go_roundg m0
          case measure => omega
          case rel => exact ⟨k0 + 1, by omega, by go_num, H, HBY4⟩
        | true =>
          have nht_16 : 0 < k0 := by have := of_decide_eq_true ht_16; omega
          replace H := ite_t H
          replace H := let_hid H
          obtain ⟨t_20, ht_20, H⟩ := H
          replace H := idx_hid H
          obtain ⟨nt_21, yt_21, et_21, lt_21, gt_21, H⟩ := H
          subst et_21
          obtain ⟨ab_t_21, ao_t_21, zt_21, At_21, z_t_21, ct_21_0⟩ := Go.Proofs.YtpaakpbbahbhcaaDoor.HelpInt.Ints.at_ M0.out lt_21
          obtain rfl := Option.some.inj (gt_21.out.symm.trans z_t_21)
          simp only [Option.some.injEq, Addr.mk.injEq] at At_21
          obtain ⟨rfl, rfl, _⟩ := At_21
          have ltt_21 := cell_lt ct_21_0
          replace ct_21_0 := cell_below HBwr0.out ct_21_0
          clear z_t_21
          have b0t_21 : (0 : Int) ≤ (nt_21 : Int) := by omega
          have b1t_21 : (nt_21 : Int) < ((l.length : Nat) : Int) := by omega
          have b2t_21 : ((nt_21 : Int)).toNat = nt_21 := by omega
          have Hct_21_0 := Lib.hid ct_21_0
          replace ct_21_0 := cell_regrown ct_21_0
          replace H := idx_hid H
          obtain ⟨nt_25, yt_25, et_25, lt_25, gt_25, H⟩ := H
          obtain rfl : k0 = nt_25 := by omega
          clear et_25
          obtain rfl := Option.some.inj (gt_8.out.symm.trans gt_25.out)
          clear gt_25 lt_25
          replace H := let_hid H
          obtain ⟨t_27, ht_27, H⟩ := H
          replace H := app_hid H
          replace H := app_hid H
          refine wp_region_quiet_below (by kernel_rfl) (by kernel_rfl) ?_
          repeat (go_big_quiet_step (first | (go_at_call 16; exact nt_12 _ _)))
          refine wpQuiet_nil ?_
          intro Y4 hY4
          replace hY4 := below_class hY4
          clear nt_12
          replace ct_8_0 := Hct_8_0.out
          clear Hct_8_0
          replace ct_21_0 := Hct_21_0.out
          clear Hct_21_0
          have HBY4 := Lib.hid (Below.step HBwr0.out hY4)
          replace ct_8_0 := cell_below hY4 ct_8_0
          replace ct_21_0 := cell_below hY4 ct_21_0
          clear hY4
          cases t_27 with
          | false =>
            replace H := ite_f H
            replace H := app_hid H
            go_wp2_with fail
            go_roundg m0
            case measure => omega
            case rel => exact ⟨k0 + 1, by omega, by go_num, H, HBY4⟩
          | true =>
            replace H := ite_t H
            obtain rfl := ret_hid H
            go_wp2_with fail
            go_ret
            exact ⟨rfl, HBY4.out⟩
end Go.Proofs.YtpaakpbbahbhcaaDoor.GsL1Rising
