/- loop.example/g01062/impl.areByKey[int,int] as a plain function, and the contract of the program's: where the plain one has an answer, the program has it. Conditions: slices read as lists. -/
import Derived.Test.YtpaakpbbahbhcaaDoorChecked
import Derived.Test.YtpaakpbbahbhcaaDoorGoM
import Derived.Test.YtpaakpbbahbhcaaDoorHelpInt
import Derived.Test.YtpaakpbbahbhcaaDoorGiIsTrait
import Derived.Test.YtpaakpbbahbhcaaDoorGiAreTraits1
import Derived.WalkKit
import Derived.WalkSpells
import Derived.WalkLawsBesides
import Derived.BigQuiet
import Derived.OwnWalk
import Derived.Deep.LoopGhost
import Derived.Deep.QuietTactic
import Derived.IntWalk
import Derived.Lib.QuietBelow
namespace Go.Proofs.YtpaakpbbahbhcaaDoor.GiAreByKeyIntIntiIsTraitiAreTraits1
set_option linter.unusedVariables false
set_option linter.unusedSimpArgs false
open Go.RowKit
open Go.Proofs.YtpaakpbbahbhcaaDoor.Rowed Go.Proofs.YtpaakpbbahbhcaaDoor.Turn Go.Proofs.YtpaakpbbahbhcaaDoor.Aid Go.Proofs.YtpaakpbbahbhcaaDoor.GoP Go.Proofs.YtpaakpbbahbhcaaDoor.GoM

def l0 (list : (List Int)) (k0 : Nat) (s : Unit) (nx0 bk0 : Unit → Option (Bool)) : Option (Bool) :=
  
  Option.bind (idx list (k0 : Int)) fun (yt_11 : Int) =>
  Option.bind (Go.Proofs.YtpaakpbbahbhcaaDoor.GiIsTrait.P yt_11) fun (t_17 : Bool) =>
  letK (!t_17) fun (t_18 : Bool) =>
  joinK (fun (t_35 : Bool) =>
  iteK t_35
  (some false)
  (appK nx0 ())) fun jt_35 => iteK t_18 (appK jt_35 true) (letK (decide (0 < (k0 : Int))) fun (t_21 : Bool) =>
  joinK (fun (t_34 : Bool) =>
  appK jt_35 t_34) fun jt_34 => iteK t_21 (Option.bind (Go.Proofs.YtpaakpbbahbhcaaDoor.GiAreTraits1.P yt_11) fun (t_25 : Int) =>
  letK (IntKind.i64.wrap ((k0 : Int) - 1)) fun (t_29 : Int) =>
  Option.bind (idx list t_29) fun (yt_30 : Int) =>
  Option.bind (Go.Proofs.YtpaakpbbahbhcaaDoor.GiAreTraits1.P yt_30) fun (t_32 : Int) =>
  letK (decide (t_25 ≤ t_32)) fun (t_33 : Bool) =>
  appK jt_34 t_33) (appK jt_34 false))

def e0  (s : Unit) : Option (Bool) :=
  
  some true

def P (list : (List Int)) (most : Int) : Option (Bool) :=
  letK (decide (most < (list.length : Int))) fun (t_4 : Bool) =>
  iteK t_4
  (some false)
  (cntK (l0 list) (list.length) 0 () (e0 ))

set_option maxRecDepth 100000 in
set_option maxHeartbeats 2000000 in
theorem C (list : (List Int)) (most : Int) (A0 : Option Addr) (c0 : Nat)  (w : World) (M0 : Hid (Cells w 1 A0 list.length (Go.Proofs.YtpaakpbbahbhcaaDoor.HelpInt.iv list))) (N0 : Hid (list.length ≤ 9223372036854775807))  {r : Bool} (H : Hid (P list most = some r)) :
    Calls Tryd.prog 24 #[.slice A0 list.length c0, .int .i64 most, .func (.func 25) #[] #[], .func (.func 26) #[] #[]] w (Gives (.bool r) w) := by
  have HB := Lib.hid (Below.refl w.heap.size w)
  unfold P at H
  have N0o := N0.out
  go_enter Tryd.func24, Tryd.ntmps24
  replace H := let_hid H
  obtain ⟨t_4, ht_4, H⟩ := H
  cases t_4 with
  | false =>
    replace H := ite_f H
    go_wp2_with fail
    go_loopg [17] (list.length) (fun m_ v17_ wr => ∃ (k0 : Nat) , k0 + m_ = list.length ∧ v17_ = .int .i64 (k0 : Int) ∧ Hid (cntK (l0 list) m_ k0 () (e0 ) = some r) ∧ Hid (Below w.heap.size w wr))
    case atStart => exact ⟨0, by omega, rfl, H, HB⟩
    case round =>
      obtain ⟨k0, hkm0, rfl, H, HBwr0⟩ := hrel
      rename World => wr0
      cases gk with
      | zero =>
        obtain rfl : k0 = list.length := by omega
        have hc0 : decide (((list.length : Nat) : Int) < ((list.length : Nat) : Int)) = false := by simp
        replace H := cnt_zero H
        unfold e0 at H
        obtain rfl := ret_hid H
        go_wp2_with fail
        go_ret
        exact ⟨rfl, HBwr0.out⟩
      | succ m0 =>
        have hlt0 : k0 < list.length := by omega
        have hc0 : decide ((k0 : Int) < ((list.length : Nat) : Int)) = true := by simp; omega
        replace H := cnt_succ H
        unfold l0 at H
        replace H := idx_hid H
        obtain ⟨nt_11, yt_11, et_11, lt_11, gt_11, H⟩ := H
        obtain rfl : k0 = nt_11 := by omega
        clear et_11
        obtain ⟨ab_t_11, ao_t_11, zt_11, At_11, z_t_11, ct_11_0⟩ := Go.Proofs.YtpaakpbbahbhcaaDoor.HelpInt.Ints.at_ M0.out lt_11
        obtain rfl := Option.some.inj (gt_11.out.symm.trans z_t_11)
        subst At_11
        have ltt_11 := cell_lt ct_11_0
        replace ct_11_0 := cell_below HBwr0.out ct_11_0
        clear z_t_11
        have b0t_11 : (0 : Int) ≤ (k0 : Int) := by omega
        have b1t_11 : (k0 : Int) < ((list.length : Nat) : Int) := by omega
        have b2t_11 : ((k0 : Int)).toNat = k0 := by omega
        go_wp2_with fail
        have Hct_11_0 := Lib.hid ct_11_0
        replace ct_11_0 := cell_regrown ct_11_0
        replace H := bind_hid H
        obtain ⟨t_17, qt_17, H⟩ := H
        have nt_17 : ∀ d os, Calls Tryd.prog 25 #[.int .i64 yt_11] (Go.Sort.grow (redrawn wr0 d) os) fun e w'' => e = .returned (.bool t_17) ∧ ∃ p : Regrown, w'' = Go.Sort.grow (redrawn wr0 p.d) p.os := fun d os => Calls.regrown_of (Go.Proofs.YtpaakpbbahbhcaaDoor.GiIsTrait.C (yt_11)  _    qt_17)
        cases t_17 with
        | false =>
          replace H := let_hid H
          obtain ⟨t_18, ht_18, H⟩ := H
          obtain rfl : t_18 = true := ht_18.symm
          replace H := join_hid H
          replace H := ite_t H
          replace H := app_hid H
          refine wp_region_quiet_below (by kernel_rfl) (by kernel_rfl) ?_
          repeat (go_big_quiet_step (first | (go_at_call 25; exact nt_17 _ _)))
          refine wpQuiet_nil ?_
          intro Y6 hY6
          replace hY6 := below_class hY6
          clear nt_17
          replace ct_11_0 := Hct_11_0.out
          clear Hct_11_0
          have HBY6 := Lib.hid (Below.step HBwr0.out hY6)
          replace ct_11_0 := cell_below hY6 ct_11_0
          clear hY6
          replace H := ite_t H
          obtain rfl := ret_hid H
          go_wp2_with fail
          go_ret
          exact ⟨rfl, HBY6.out⟩
        | true =>
          replace H := let_hid H
          obtain ⟨t_18, ht_18, H⟩ := H
          obtain rfl : t_18 = false := ht_18.symm
          replace H := join_hid H
          replace H := ite_f H
          replace H := let_hid H
          obtain ⟨t_21, ht_21, H⟩ := H
          replace H := join_hid H
          cases t_21 with
          | false =>
            have nht_21 : ¬ (0 < k0) := by have := of_decide_eq_false ht_21; omega
            replace H := ite_f H
            replace H := app_hid H
            replace H := app_hid H
            refine wp_region_quiet_below (by kernel_rfl) (by kernel_rfl) ?_
            repeat (go_big_quiet_step (first | (go_at_call 25; exact nt_17 _ _)))
            refine wpQuiet_nil ?_
            intro Y6 hY6
            replace hY6 := below_class hY6
            clear nt_17
            replace ct_11_0 := Hct_11_0.out
            clear Hct_11_0
            have HBY6 := Lib.hid (Below.step HBwr0.out hY6)
            replace ct_11_0 := cell_below hY6 ct_11_0
            clear hY6
            replace H := ite_f H
            replace H := app_hid H
            go_wp2_with fail
            go_roundg m0
            case measure => omega
            case rel => exact ⟨k0 + 1, by omega, by go_num, H, HBY6⟩
          | true =>
            have nht_21 : 0 < k0 := by have := of_decide_eq_true ht_21; omega
            replace H := ite_t H
            replace H := bind_hid H
            obtain ⟨t_25, qt_25, H⟩ := H
            have nt_25 : ∀ d os, Calls Tryd.prog 26 #[.int .i64 yt_11] (Go.Sort.grow (redrawn wr0 d) os) fun e w'' => e = .returned (.int .i64 t_25) ∧ ∃ p : Regrown, w'' = Go.Sort.grow (redrawn wr0 p.d) p.os := fun d os => Calls.regrown_of (Go.Proofs.YtpaakpbbahbhcaaDoor.GiAreTraits1.C (yt_11)  _    qt_25)
            replace H := let_hid H
            obtain ⟨t_29, ht_29, H⟩ := H
            replace H := idx_hid H
            obtain ⟨nt_30, yt_30, et_30, lt_30, gt_30, H⟩ := H
            subst et_30
            obtain ⟨ab_t_30, ao_t_30, zt_30, At_30, z_t_30, ct_30_0⟩ := Go.Proofs.YtpaakpbbahbhcaaDoor.HelpInt.Ints.at_ M0.out lt_30
            obtain rfl := Option.some.inj (gt_30.out.symm.trans z_t_30)
            simp only [Option.some.injEq, Addr.mk.injEq] at At_30
            obtain ⟨rfl, rfl, _⟩ := At_30
            have ltt_30 := cell_lt ct_30_0
            replace ct_30_0 := cell_below HBwr0.out ct_30_0
            clear z_t_30
            have b0t_30 : (0 : Int) ≤ (nt_30 : Int) := by omega
            have b1t_30 : (nt_30 : Int) < ((list.length : Nat) : Int) := by omega
            have b2t_30 : ((nt_30 : Int)).toNat = nt_30 := by omega
            have Hct_30_0 := Lib.hid ct_30_0
            replace ct_30_0 := cell_regrown ct_30_0
            replace H := bind_hid H
            obtain ⟨t_32, qt_32, H⟩ := H
            have nt_32 : ∀ d os, Calls Tryd.prog 26 #[.int .i64 yt_30] (Go.Sort.grow (redrawn wr0 d) os) fun e w'' => e = .returned (.int .i64 t_32) ∧ ∃ p : Regrown, w'' = Go.Sort.grow (redrawn wr0 p.d) p.os := fun d os => Calls.regrown_of (Go.Proofs.YtpaakpbbahbhcaaDoor.GiAreTraits1.C (yt_30)  _    qt_32)
            replace H := let_hid H
            obtain ⟨t_33, ht_33, H⟩ := H
            replace H := app_hid H
            replace H := app_hid H
            refine wp_region_quiet_below (by kernel_rfl) (by kernel_rfl) ?_
            repeat (go_big_quiet_step (first | (go_at_call 26; with_reducible exact nt_25 _ _) | (go_at_call 26; with_reducible exact nt_32 _ _) | (go_at_call 25; exact nt_17 _ _) | (go_at_call 26; exact nt_25 _ _) | (go_at_call 26; exact nt_32 _ _)))
            refine wpQuiet_nil ?_
            intro Y6 hY6
            replace hY6 := below_class hY6
            clear nt_17 nt_25 nt_32
            replace ct_11_0 := Hct_11_0.out
            clear Hct_11_0
            replace ct_30_0 := Hct_30_0.out
            clear Hct_30_0
            have HBY6 := Lib.hid (Below.step HBwr0.out hY6)
            replace ct_11_0 := cell_below hY6 ct_11_0
            replace ct_30_0 := cell_below hY6 ct_30_0
            clear hY6
            cases t_33 with
            | false =>
              replace H := ite_f H
              replace H := app_hid H
              go_wp2_with fail
              go_roundg m0
              case measure => omega
              case rel => exact ⟨k0 + 1, by omega, by go_num, H, HBY6⟩
            | true =>
              replace H := ite_t H
              obtain rfl := ret_hid H
              go_wp2_with fail
              go_ret
              exact ⟨rfl, HBY6.out⟩
  | true =>
    replace H := ite_t H
    obtain rfl := ret_hid H
    go_wp2_with fail
    go_ret
    exact ⟨rfl, HB.out⟩
end Go.Proofs.YtpaakpbbahbhcaaDoor.GiAreByKeyIntIntiIsTraitiAreTraits1
