/- Texts on which the proofs of several laws stand, one behind the other (3 of 20). No condition of their own. -/
import Derived.Test.YtpaakpbbahbhcaaChecked
import Derived.Test.YtpaakpbbahbhcaaX13P1
import Derived.Test.YtpaakpbbahbhcaaX13P2
import Derived.WalkKit
import Derived.WalkSpells
import Derived.WalkLawsBesides
import Derived.BigQuiet
import Derived.OwnWalk
import Derived.Deep.LoopGhost
import Derived.Deep.QuietTactic
import Derived.IntWalk
import Derived.Lib.QuietBelow
/- loop.example/g01062/impl.isWord as a plain function, and the contract of the program's: where the plain one has an answer, the program has it. Conditions: slices read as lists. -/
namespace Go.Proofs.Ytpaakpbbahbhcaa.GiIsWord
set_option linter.unusedVariables false
set_option linter.unusedSimpArgs false
open Go.RowKit
open Go.Proofs.Ytpaakpbbahbhcaa.Rowed Go.Proofs.Ytpaakpbbahbhcaa.Turn Go.Proofs.Ytpaakpbbahbhcaa.Aid Go.Proofs.Ytpaakpbbahbhcaa.GoP Go.Proofs.Ytpaakpbbahbhcaa.GoM

def l0 (s_0 : ByteArray) (k0 : Nat) (s : Unit) (nx0 bk0 : Unit → Option (Bool)) : Option (Bool) :=
  
  Option.bind (idx s_0.toList (k0 : Int)) fun (yt_14 : UInt8) =>
  letK ((yt_14.toNat : Int)) fun (t_14 : Int) =>
  Option.bind (Go.Proofs.Ytpaakpbbahbhcaa.GiIsLetter.P t_14) fun (t_15 : Bool) =>
  letK (!t_15) fun (t_16 : Bool) =>
  iteK t_16
  (some false)
  (appK nx0 ())

def e0  (s : Unit) : Option (Bool) :=
  
  some true

def P (s_0 : ByteArray) : Option (Bool) :=
  Option.bind (Go.Proofs.Ytpaakpbbahbhcaa.GiWithin.P (s_0.size : Int) 1 10) fun (t_3 : Bool) =>
  letK (!t_3) fun (t_4 : Bool) =>
  iteK t_4
  (some false)
  (guardK (s_0.size ≤ 9223372036854775807) <|
  cntK (l0 s_0) (s_0.size) 0 () (e0 ))

set_option maxRecDepth 100000 in
set_option maxHeartbeats 2000000 in
theorem C (s_0 : ByteArray)   (w : World)   {r : Bool} (H : Hid (P s_0 = some r)) :
    Calls Try.prog 93 #[.string s_0] w (Gives (.bool r) w) := by
  have HB := Lib.hid (Below.refl w.heap.size w)
  unfold P at H
  go_enter Try.func93, Try.ntmps93
  replace H := bind_hid H
  obtain ⟨t_3, qt_3, H⟩ := H
  go_wp2_with fail
  go_at_call 87
  refine (Go.Proofs.Ytpaakpbbahbhcaa.GiWithin.C ((s_0.size : Int)) (1) (10)  _    qt_3).mono ?_
  rintro e_t_3 wt_3 ⟨rfl, bt_3⟩
  have HBwt_3 := Lib.hid (Below.step HB.out bt_3)
  clear bt_3
  cases t_3 with
  | false =>
    replace H := let_hid H
    obtain ⟨t_4, ht_4, H⟩ := H
    obtain rfl : t_4 = true := ht_4.symm
    replace H := ite_t H
    obtain rfl := ret_hid H
    go_wp2_with fail
    go_ret
    exact ⟨rfl, HBwt_3.out⟩
  | true =>
    replace H := let_hid H
    obtain ⟨t_4, ht_4, H⟩ := H
    obtain rfl : t_4 = false := ht_4.symm
    replace H := ite_f H
    replace H := guard_hid H
    obtain ⟨hg0, H⟩ := H
    go_wp2_with fail
    go_loopg [10] (s_0.size) (fun m_ v10_ wr => ∃ (k0 : Nat) , k0 + m_ = s_0.size ∧ v10_ = .int .i64 (k0 : Int) ∧ Hid (cntK (l0 s_0) m_ k0 () (e0 ) = some r) ∧ Hid (Below w.heap.size w wr))
    case atStart => exact ⟨0, by omega, rfl, H, HBwt_3⟩
    case round =>
      obtain ⟨k0, hkm0, rfl, H, HBwr0⟩ := hrel
      rename World => wr0
      cases gk with
      | zero =>
        obtain rfl : k0 = s_0.size := by omega
        have hc0 : decide (((s_0.size : Nat) : Int) < ((s_0.size : Nat) : Int)) = false := by simp
        replace H := cnt_zero H
        unfold e0 at H
        obtain rfl := ret_hid H
        go_wp2_with fail
        go_ret
        exact ⟨rfl, HBwr0.out⟩
      | succ m0 =>
        have hlt0 : k0 < s_0.size := by omega
        have hc0 : decide ((k0 : Int) < ((s_0.size : Nat) : Int)) = true := by simp; omega
        replace H := cnt_succ H
        unfold l0 at H
        replace H := idx_hid H
        obtain ⟨nt_14, yt_14, et_14, lt_14, gt_14, H⟩ := H
        obtain rfl : k0 = nt_14 := by omega
        clear et_14
        have rt_14 := byte_rule lt_14 gt_14.out
        have b0t_14 : (0 : Int) ≤ (k0 : Int) := by omega
        have b1t_14 : (k0 : Int) < (s_0.size : Int) := by have := size_list s_0; omega
        have b2t_14 : ((k0 : Int)).toNat = k0 := by omega
        have b3t_14 : k0 < s_0.size := by have := size_list s_0; omega
        replace H := let_hid H
        obtain ⟨t_14, ht_14, H⟩ := H
        replace H := bind_hid H
        obtain ⟨t_15, qt_15, H⟩ := H
        go_wp2_with fail
        go_at_call 104
        refine (Go.Proofs.Ytpaakpbbahbhcaa.GiIsLetter.C (t_14)  _    qt_15).mono ?_
        rintro e_t_15 wt_15 ⟨rfl, bt_15⟩
        have HBwt_15 := Lib.hid (Below.step HBwr0.out bt_15)
        clear bt_15
        cases t_15 with
        | false =>
          replace H := let_hid H
          obtain ⟨t_16, ht_16, H⟩ := H
          obtain rfl : t_16 = true := ht_16.symm
          replace H := ite_t H
          obtain rfl := ret_hid H
          go_wp2_with fail
          go_ret
          exact ⟨rfl, HBwt_15.out⟩
        | true =>
          replace H := let_hid H
          obtain ⟨t_16, ht_16, H⟩ := H
          obtain rfl : t_16 = false := ht_16.symm
          replace H := ite_f H
          replace H := app_hid H
          go_wp2_with fail
          go_roundg m0
          case measure => omega
          case rel => exact ⟨k0 + 1, by omega, by go_num, H, HBwt_15⟩
end Go.Proofs.Ytpaakpbbahbhcaa.GiIsWord

/- loop.example/g01062/impl.isTrait as a plain function, and the contract of the program's: where the plain one has an answer, the program has it. Conditions: slices read as lists. -/
namespace Go.Proofs.Ytpaakpbbahbhcaa.GiIsTrait
set_option linter.unusedVariables false
set_option linter.unusedSimpArgs false
open Go.RowKit
open Go.Proofs.Ytpaakpbbahbhcaa.Rowed Go.Proofs.Ytpaakpbbahbhcaa.Turn Go.Proofs.Ytpaakpbbahbhcaa.Aid Go.Proofs.Ytpaakpbbahbhcaa.GoP Go.Proofs.Ytpaakpbbahbhcaa.GoM

def P (trait : Int) : Option (Bool) :=
  Option.bind (Go.Proofs.Ytpaakpbbahbhcaa.GiWithin.P trait 1 50) fun (t_2 : Bool) =>
  some t_2

set_option maxRecDepth 100000 in
set_option maxHeartbeats 2000000 in
theorem C (trait : Int)   (w : World)   {r : Bool} (H : Hid (P trait = some r)) :
    Calls Try.prog 106 #[.int .i64 trait] w (Gives (.bool r) w) := by
  have HB := Lib.hid (Below.refl w.heap.size w)
  unfold P at H
  go_enter Try.func106, Try.ntmps106
  replace H := bind_hid H
  obtain ⟨t_2, qt_2, H⟩ := H
  go_wp2_with fail
  go_at_call 87
  refine (Go.Proofs.Ytpaakpbbahbhcaa.GiWithin.C (trait) (1) (50)  _    qt_2).mono ?_
  rintro e_t_2 wt_2 ⟨rfl, bt_2⟩
  have HBwt_2 := Lib.hid (Below.step HB.out bt_2)
  clear bt_2
  obtain rfl := ret_hid H
  go_wp2_with fail
  go_ret
  exact ⟨rfl, HBwt_2.out⟩
end Go.Proofs.Ytpaakpbbahbhcaa.GiIsTrait

/- loop.example/g01062/impl.areTraits$1 as a plain function, and the contract of the program's: where the plain one has an answer, the program has it. Conditions: slices read as lists. -/
namespace Go.Proofs.Ytpaakpbbahbhcaa.GiAreTraits1
set_option linter.unusedVariables false
set_option linter.unusedSimpArgs false
open Go.RowKit
open Go.Proofs.Ytpaakpbbahbhcaa.Rowed Go.Proofs.Ytpaakpbbahbhcaa.Turn Go.Proofs.Ytpaakpbbahbhcaa.Aid Go.Proofs.Ytpaakpbbahbhcaa.GoP Go.Proofs.Ytpaakpbbahbhcaa.GoM

def P (trait : Int) : Option (Int) :=
  some trait

set_option maxRecDepth 100000 in
set_option maxHeartbeats 2000000 in
theorem C (trait : Int)   (w : World)   {r : Int} (H : Hid (P trait = some r)) :
    Calls Try.prog 107 #[.int .i64 trait] w (Gives (.int .i64 r) w) := by
  have HB := Lib.hid (Below.refl w.heap.size w)
  unfold P at H
  go_enter Try.func107, Try.ntmps107
  obtain rfl := ret_hid H
  go_wp2_with fail
  go_ret
  exact ⟨rfl, HB.out⟩

set_option maxRecDepth 100000 in
set_option maxHeartbeats 2000000 in
theorem C0 (trait : Int)   (w : World)   {r : Int} (H : Hid (P trait = some r)) :
    Calls Try.prog 107 #[.int .i64 trait] w (fun e w'' => e = .returned (.int .i64 r) ∧ w'' = w) := by
  have HB := Lib.hid (Below.refl w.heap.size w)
  unfold P at H
  go_enter Try.func107, Try.ntmps107
  obtain rfl := ret_hid H
  go_wp2_with fail
  go_ret
  exact ⟨rfl, rfl⟩
end Go.Proofs.Ytpaakpbbahbhcaa.GiAreTraits1

/- loop.example/g01062/impl.areByKey[int,int] as a plain function, and the contract of the program's: where the plain one has an answer, the program has it. Conditions: slices read as lists. -/
namespace Go.Proofs.Ytpaakpbbahbhcaa.GiAreByKeyIntIntiIsTraitiAreTraits1
set_option linter.unusedVariables false
set_option linter.unusedSimpArgs false
open Go.RowKit
open Go.Proofs.Ytpaakpbbahbhcaa.Rowed Go.Proofs.Ytpaakpbbahbhcaa.Turn Go.Proofs.Ytpaakpbbahbhcaa.Aid Go.Proofs.Ytpaakpbbahbhcaa.GoP Go.Proofs.Ytpaakpbbahbhcaa.GoM

def l0 (list : (List Int)) (k0 : Nat) (s : Unit) (nx0 bk0 : Unit → Option (Bool)) : Option (Bool) :=
  
  Option.bind (idx list (k0 : Int)) fun (yt_11 : Int) =>
  Option.bind (Go.Proofs.Ytpaakpbbahbhcaa.GiIsTrait.P yt_11) fun (t_17 : Bool) =>
  letK (!t_17) fun (t_18 : Bool) =>
  joinK (fun (t_35 : Bool) =>
  iteK t_35
  (some false)
  (appK nx0 ())) fun jt_35 => iteK t_18 (appK jt_35 true) (letK (decide (0 < (k0 : Int))) fun (t_21 : Bool) =>
  joinK (fun (t_34 : Bool) =>
  appK jt_35 t_34) fun jt_34 => iteK t_21 (Option.bind (Go.Proofs.Ytpaakpbbahbhcaa.GiAreTraits1.P yt_11) fun (t_25 : Int) =>
  letK (IntKind.i64.wrap ((k0 : Int) - 1)) fun (t_29 : Int) =>
  Option.bind (idx list t_29) fun (yt_30 : Int) =>
  Option.bind (Go.Proofs.Ytpaakpbbahbhcaa.GiAreTraits1.P yt_30) fun (t_32 : Int) =>
  letK (decide (t_25 ≤ t_32)) fun (t_33 : Bool) =>
  appK jt_34 t_33) (appK jt_34 false))

def e0  (s : Unit) : Option (Bool) :=
  
  some true

def P (list : (List Int)) (most : Int) : Option (Bool) :=
  letK (decide (most < (list.length : Int))) fun (t_4 : Bool) =>
  iteK t_4
  (some false)
  (cntK (l0 list) (list.length) 0 () (e0 ))

set_option maxRecDepth 100000 in
set_option maxHeartbeats 2000000 in
theorem C (list : (List Int)) (most : Int) (A0 : Option Addr) (c0 : Nat)  (w : World) (M0 : Hid (Cells w 1 A0 list.length (Go.Proofs.Ytpaakpbbahbhcaa.HelpInt.iv list))) (N0 : Hid (list.length ≤ 9223372036854775807))  {r : Bool} (H : Hid (P list most = some r)) :
    Calls Try.prog 105 #[.slice A0 list.length c0, .int .i64 most, .func (.func 106) #[] #[], .func (.func 107) #[] #[]] w (Gives (.bool r) w) := by
  have HB := Lib.hid (Below.refl w.heap.size w)
  unfold P at H
  have N0o := N0.out
  go_enter Try.func105, Try.ntmps105
  replace H := let_hid H
  obtain ⟨t_4, ht_4, H⟩ := H
  cases t_4 with
  | false =>
    replace H := ite_f H
    go_wp2_with fail
    go_loopg [17] (list.length) (fun m_ v17_ wr => ∃ (k0 : Nat) , k0 + m_ = list.length ∧ v17_ = .int .i64 (k0 : Int) ∧ Hid (cntK (l0 list) m_ k0 () (e0 ) = some r) ∧ Hid (Below w.heap.size w wr))
    case atStart => exact ⟨0, by omega, rfl, H, HB⟩
    case round =>
      obtain ⟨k0, hkm0, rfl, H, HBwr0⟩ := hrel
      rename World => wr0
      cases gk with
      | zero =>
        obtain rfl : k0 = list.length := by omega
        have hc0 : decide (((list.length : Nat) : Int) < ((list.length : Nat) : Int)) = false := by simp
        replace H := cnt_zero H
        unfold e0 at H
        obtain rfl := ret_hid H
        go_wp2_with fail
        go_ret
        exact ⟨rfl, HBwr0.out⟩
      | succ m0 =>
        have hlt0 : k0 < list.length := by omega
        have hc0 : decide ((k0 : Int) < ((list.length : Nat) : Int)) = true := by simp; omega
        replace H := cnt_succ H
        unfold l0 at H
        replace H := idx_hid H
        obtain ⟨nt_11, yt_11, et_11, lt_11, gt_11, H⟩ := H
        obtain rfl : k0 = nt_11 := by omega
        clear et_11
        obtain ⟨ab_t_11, ao_t_11, zt_11, At_11, z_t_11, ct_11_0⟩ := Go.Proofs.Ytpaakpbbahbhcaa.HelpInt.Ints.at_ M0.out lt_11
        obtain rfl := Option.some.inj (gt_11.out.symm.trans z_t_11)
        subst At_11
        have ltt_11 := cell_lt ct_11_0
        replace ct_11_0 := cell_below HBwr0.out ct_11_0
        clear z_t_11
        have b0t_11 : (0 : Int) ≤ (k0 : Int) := by omega
        have b1t_11 : (k0 : Int) < ((list.length : Nat) : Int) := by omega
        have b2t_11 : ((k0 : Int)).toNat = k0 := by omega
        go_wp2_with fail
        have Hct_11_0 := Lib.hid ct_11_0
        replace ct_11_0 := cell_regrown ct_11_0
        replace H := bind_hid H
        obtain ⟨t_17, qt_17, H⟩ := H
        have nt_17 : ∀ d os, Calls Try.prog 106 #[.int .i64 yt_11] (Go.Sort.grow (redrawn wr0 d) os) fun e w'' => e = .returned (.bool t_17) ∧ ∃ p : Regrown, w'' = Go.Sort.grow (redrawn wr0 p.d) p.os := fun d os => Calls.regrown_of (Go.Proofs.Ytpaakpbbahbhcaa.GiIsTrait.C (yt_11)  _    qt_17)
        cases t_17 with
        | false =>
          replace H := let_hid H
          obtain ⟨t_18, ht_18, H⟩ := H
          obtain rfl : t_18 = true := ht_18.symm
          replace H := join_hid H
          replace H := ite_t H
          replace H := app_hid H
          refine wp_region_quiet_below (by kernel_rfl) (by kernel_rfl) ?_
          repeat (go_big_quiet_step (first | (go_at_call 106; exact nt_17 _ _)))
          refine wpQuiet_nil ?_
          intro Y6 hY6
          replace hY6 := below_class hY6
          clear nt_17
          replace ct_11_0 := Hct_11_0.out
          clear Hct_11_0
          have HBY6 := Lib.hid (Below.step HBwr0.out hY6)
          replace ct_11_0 := cell_below hY6 ct_11_0
          clear hY6
          replace H := ite_t H
          obtain rfl := ret_hid H
          go_wp2_with fail
          go_ret
          exact ⟨rfl, HBY6.out⟩
        | true =>
          replace H := let_hid H
          obtain ⟨t_18, ht_18, H⟩ := H
          obtain rfl : t_18 = false := ht_18.symm
          replace H := join_hid H
          replace H := ite_f H
          replace H := let_hid H
          obtain ⟨t_21, ht_21, H⟩ := H
          replace H := join_hid H
          cases t_21 with
          | false =>
            have nht_21 : ¬ (0 < k0) := by have := of_decide_eq_false ht_21; omega
            replace H := ite_f H
            replace H := app_hid H
            replace H := app_hid H
            refine wp_region_quiet_below (by kernel_rfl) (by kernel_rfl) ?_
            repeat (go_big_quiet_step (first | (go_at_call 106; exact nt_17 _ _)))
            refine wpQuiet_nil ?_
            intro Y6 hY6
            replace hY6 := below_class hY6
            clear nt_17
            replace ct_11_0 := Hct_11_0.out
            clear Hct_11_0
            have HBY6 := Lib.hid (Below.step HBwr0.out hY6)
            replace ct_11_0 := cell_below hY6 ct_11_0
            clear hY6
            replace H := ite_f H
            replace H := app_hid H
            go_wp2_with fail
            go_roundg m0
            case measure => omega
            case rel => exact ⟨k0 + 1, by omega, by go_num, H, HBY6⟩
          | true =>
            have nht_21 : 0 < k0 := by have := of_decide_eq_true ht_21; omega
            replace H := ite_t H
            replace H := bind_hid H
            obtain ⟨t_25, qt_25, H⟩ := H
            have nt_25 : ∀ d os, Calls Try.prog 107 #[.int .i64 yt_11] (Go.Sort.grow (redrawn wr0 d) os) fun e w'' => e = .returned (.int .i64 t_25) ∧ ∃ p : Regrown, w'' = Go.Sort.grow (redrawn wr0 p.d) p.os := fun d os => Calls.regrown_of (Go.Proofs.Ytpaakpbbahbhcaa.GiAreTraits1.C (yt_11)  _    qt_25)
            replace H := let_hid H
            obtain ⟨t_29, ht_29, H⟩ := H
            replace H := idx_hid H
            obtain ⟨nt_30, yt_30, et_30, lt_30, gt_30, H⟩ := H
            subst et_30
            obtain ⟨ab_t_30, ao_t_30, zt_30, At_30, z_t_30, ct_30_0⟩ := Go.Proofs.Ytpaakpbbahbhcaa.HelpInt.Ints.at_ M0.out lt_30
            obtain rfl := Option.some.inj (gt_30.out.symm.trans z_t_30)
            simp only [Option.some.injEq, Addr.mk.injEq] at At_30
            obtain ⟨rfl, rfl, _⟩ := At_30
            have ltt_30 := cell_lt ct_30_0
            replace ct_30_0 := cell_below HBwr0.out ct_30_0
            clear z_t_30
            have b0t_30 : (0 : Int) ≤ (nt_30 : Int) := by omega
            have b1t_30 : (nt_30 : Int) < ((list.length : Nat) : Int) := by omega
            have b2t_30 : ((nt_30 : Int)).toNat = nt_30 := by omega
            have Hct_30_0 := Lib.hid ct_30_0
            replace ct_30_0 := cell_regrown ct_30_0
            replace H := bind_hid H
            obtain ⟨t_32, qt_32, H⟩ := H
            have nt_32 : ∀ d os, Calls Try.prog 107 #[.int .i64 yt_30] (Go.Sort.grow (redrawn wr0 d) os) fun e w'' => e = .returned (.int .i64 t_32) ∧ ∃ p : Regrown, w'' = Go.Sort.grow (redrawn wr0 p.d) p.os := fun d os => Calls.regrown_of (Go.Proofs.Ytpaakpbbahbhcaa.GiAreTraits1.C (yt_30)  _    qt_32)
            replace H := let_hid H
            obtain ⟨t_33, ht_33, H⟩ := H
            replace H := app_hid H
            replace H := app_hid H
            refine wp_region_quiet_below (by kernel_rfl) (by kernel_rfl) ?_
            repeat (go_big_quiet_step (first | (go_at_call 107; with_reducible exact nt_25 _ _) | (go_at_call 107; with_reducible exact nt_32 _ _) | (go_at_call 106; exact nt_17 _ _) | (go_at_call 107; exact nt_25 _ _) | (go_at_call 107; exact nt_32 _ _)))
            refine wpQuiet_nil ?_
            intro Y6 hY6
            replace hY6 := below_class hY6
            clear nt_17 nt_25 nt_32
            replace ct_11_0 := Hct_11_0.out
            clear Hct_11_0
            replace ct_30_0 := Hct_30_0.out
            clear Hct_30_0
            have HBY6 := Lib.hid (Below.step HBwr0.out hY6)
            replace ct_11_0 := cell_below hY6 ct_11_0
            replace ct_30_0 := cell_below hY6 ct_30_0
            clear hY6
            cases t_33 with
            | false =>
              replace H := ite_f H
              replace H := app_hid H
              go_wp2_with fail
              go_roundg m0
              case measure => omega
              case rel => exact ⟨k0 + 1, by omega, by go_num, H, HBY6⟩
            | true =>
              replace H := ite_t H
              obtain rfl := ret_hid H
              go_wp2_with fail
              go_ret
              exact ⟨rfl, HBY6.out⟩
  | true =>
    replace H := ite_t H
    obtain rfl := ret_hid H
    go_wp2_with fail
    go_ret
    exact ⟨rfl, HB.out⟩
end Go.Proofs.Ytpaakpbbahbhcaa.GiAreByKeyIntIntiIsTraitiAreTraits1

/- loop.example/g01062/impl.areTraits as a plain function, and the contract of the program's: where the plain one has an answer, the program has it. Conditions: slices read as lists. -/
namespace Go.Proofs.Ytpaakpbbahbhcaa.GiAreTraits
set_option linter.unusedVariables false
set_option linter.unusedSimpArgs false
open Go.RowKit
open Go.Proofs.Ytpaakpbbahbhcaa.Rowed Go.Proofs.Ytpaakpbbahbhcaa.Turn Go.Proofs.Ytpaakpbbahbhcaa.Aid Go.Proofs.Ytpaakpbbahbhcaa.GoP Go.Proofs.Ytpaakpbbahbhcaa.GoM

def P (traits : (List Int)) : Option (Bool) :=
  Option.bind (Go.Proofs.Ytpaakpbbahbhcaa.GiAreByKeyIntIntiIsTraitiAreTraits1.P traits 8) fun (t_2 : Bool) =>
  some t_2

set_option maxRecDepth 100000 in
set_option maxHeartbeats 2000000 in
theorem C (traits : (List Int)) (A0 : Option Addr) (c0 : Nat)  (w : World) (M0 : Hid (Cells w 1 A0 traits.length (Go.Proofs.Ytpaakpbbahbhcaa.HelpInt.iv traits))) (N0 : Hid (traits.length ≤ 9223372036854775807))  {r : Bool} (H : Hid (P traits = some r)) :
    Calls Try.prog 94 #[.slice A0 traits.length c0] w (Gives (.bool r) w) := by
  have HB := Lib.hid (Below.refl w.heap.size w)
  unfold P at H
  have N0o := N0.out
  go_enter Try.func94, Try.ntmps94
  replace H := bind_hid H
  obtain ⟨t_2, qt_2, H⟩ := H
  go_wp2_with fail
  go_at_call 105
  refine (Go.Proofs.Ytpaakpbbahbhcaa.GiAreByKeyIntIntiIsTraitiAreTraits1.C (traits) (8) A0 c0 _   (Lib.hid (Cells.below M0.out HB.out)) N0 qt_2).mono ?_
  rintro e_t_2 wt_2 ⟨rfl, bt_2⟩
  have HBwt_2 := Lib.hid (Below.step HB.out bt_2)
  clear bt_2
  obtain rfl := ret_hid H
  go_wp2_with fail
  go_ret
  exact ⟨rfl, HBwt_2.out⟩
end Go.Proofs.Ytpaakpbbahbhcaa.GiAreTraits

/- loop.example/g01062/impl.isSighting as a plain function, and the contract of the program's: where the plain one has an answer, the program has it. Conditions: slices read as lists. -/
namespace Go.Proofs.Ytpaakpbbahbhcaa.GiIsSighting
set_option linter.unusedVariables false
set_option linter.unusedSimpArgs false
open Go.RowKit
open Go.Proofs.Ytpaakpbbahbhcaa.Rowed Go.Proofs.Ytpaakpbbahbhcaa.Turn Go.Proofs.Ytpaakpbbahbhcaa.Aid Go.Proofs.Ytpaakpbbahbhcaa.GoP Go.Proofs.Ytpaakpbbahbhcaa.GoM

def P (s_0_id : Int) (s_0_year : Int) (s_0_town : ByteArray) (s_0_traits : (List Int)) : Option (Bool) :=
  Option.bind (Go.Proofs.Ytpaakpbbahbhcaa.GiWithin.P s_0_id 1 999) fun (t_4 : Bool) =>
  joinK (fun (t_9 : Bool) =>
  joinK (fun (t_14 : Bool) =>
  joinK (fun (t_19 : Bool) =>
  some t_19) fun jt_19 => iteK t_14 (Option.bind (Go.Proofs.Ytpaakpbbahbhcaa.GiAreTraits.P s_0_traits) fun (t_18 : Bool) =>
  appK jt_19 t_18) (appK jt_19 false)) fun jt_14 => iteK t_9 (Option.bind (Go.Proofs.Ytpaakpbbahbhcaa.GiIsWord.P s_0_town) fun (t_13 : Bool) =>
  appK jt_14 t_13) (appK jt_14 false)) fun jt_9 => iteK t_4 (Option.bind (Go.Proofs.Ytpaakpbbahbhcaa.GiWithin.P s_0_year 1840 2100) fun (t_8 : Bool) =>
  appK jt_9 t_8) (appK jt_9 false)

set_option maxRecDepth 100000 in
set_option maxHeartbeats 2000000 in
theorem C (s_0_id : Int) (s_0_year : Int) (s_0_town : ByteArray) (s_0_traits : (List Int)) (A0_3 : Option Addr) (c0_3 : Nat)  (w : World) (M0_3 : Hid (Cells w 1 A0_3 s_0_traits.length (Go.Proofs.Ytpaakpbbahbhcaa.HelpInt.iv s_0_traits))) (N0_3 : Hid (s_0_traits.length ≤ 9223372036854775807))  {r : Bool} (H : Hid (P s_0_id s_0_year s_0_town s_0_traits = some r)) :
    Calls Try.prog 67 #[.agg #[.int .i64 s_0_id, .int .i64 s_0_year, .string s_0_town, .slice A0_3 s_0_traits.length c0_3]] w (Gives (.bool r) w) := by
  have HB := Lib.hid (Below.refl w.heap.size w)
  unfold P at H
  have N0_3o := N0_3.out
  go_enter Try.func67, Try.ntmps67
  obtain ⟨w_s_0, hw_s_0⟩ : ∃ x, w.alloc (.cells #[.int .i64 s_0_id, .int .i64 s_0_year, .string s_0_town, .slice A0_3 s_0_traits.length c0_3] 67) = x := ⟨_, rfl⟩
  have bw_s_0 : Below w.heap.size w w_s_0 := by rw [← hw_s_0]; exact (Below.refl _ _).alloc (Nat.le_refl _) _
  have HBw_s_0 := Lib.hid (Below.step HB.out bw_s_0)
  clear bw_s_0
  have ks_0_0 : w_s_0.cell? ⟨w.heap.size, 0, none⟩ = some (.int .i64 s_0_id) := by rw [← hw_s_0]; exact box_new _ _ _ 0 _ rfl
  have ks_0_1 : w_s_0.cell? ⟨w.heap.size, 1, none⟩ = some (.int .i64 s_0_year) := by rw [← hw_s_0]; exact box_new _ _ _ 1 _ rfl
  have ks_0_2 : w_s_0.cell? ⟨w.heap.size, 2, none⟩ = some (.string s_0_town) := by rw [← hw_s_0]; exact box_new _ _ _ 2 _ rfl
  have ks_0_3 : w_s_0.cell? ⟨w.heap.size, 3, none⟩ = some (.slice A0_3 s_0_traits.length c0_3) := by rw [← hw_s_0]; exact box_new _ _ _ 3 _ rfl
  replace H := bind_hid H
  obtain ⟨t_4, qt_4, H⟩ := H
  go_wp2_with fail
  go_at_call 87
  refine (Go.Proofs.Ytpaakpbbahbhcaa.GiWithin.C (s_0_id) (1) (999)  _    qt_4).mono ?_
  rintro e_t_4 wt_4 ⟨rfl, bt_4⟩
  have HBwt_4 := Lib.hid (Below.step HBw_s_0.out bt_4)
  replace ks_0_0 := cell_below bt_4 ks_0_0
  replace ks_0_1 := cell_below bt_4 ks_0_1
  replace ks_0_2 := cell_below bt_4 ks_0_2
  replace ks_0_3 := cell_below bt_4 ks_0_3
  clear bt_4
  replace H := join_hid H
  cases t_4 with
  | false =>
    replace H := ite_f H
    replace H := app_hid H
    replace H := join_hid H
    replace H := ite_f H
    replace H := app_hid H
    replace H := join_hid H
    replace H := ite_f H
    replace H := app_hid H
    obtain rfl := ret_hid H
    go_wp2_with fail
    go_ret
    exact ⟨rfl, HBwt_4.out⟩
  | true =>
    replace H := ite_t H
    replace H := bind_hid H
    obtain ⟨t_8, qt_8, H⟩ := H
    go_wp2_with fail
    go_at_call 87
    refine (Go.Proofs.Ytpaakpbbahbhcaa.GiWithin.C (s_0_year) (1840) (2100)  _    qt_8).mono ?_
    rintro e_t_8 wt_8 ⟨rfl, bt_8⟩
    have HBwt_8 := Lib.hid (Below.step HBwt_4.out bt_8)
    replace ks_0_0 := cell_below bt_8 ks_0_0
    replace ks_0_1 := cell_below bt_8 ks_0_1
    replace ks_0_2 := cell_below bt_8 ks_0_2
    replace ks_0_3 := cell_below bt_8 ks_0_3
    clear bt_8
    replace H := app_hid H
    replace H := join_hid H
    cases t_8 with
    | false =>
      replace H := ite_f H
      replace H := app_hid H
      replace H := join_hid H
      replace H := ite_f H
      replace H := app_hid H
      obtain rfl := ret_hid H
      go_wp2_with fail
      go_ret
      exact ⟨rfl, HBwt_8.out⟩
    | true =>
      replace H := ite_t H
      replace H := bind_hid H
      obtain ⟨t_13, qt_13, H⟩ := H
      go_wp2_with fail
      go_at_call 93
      refine (Go.Proofs.Ytpaakpbbahbhcaa.GiIsWord.C (s_0_town)  _    qt_13).mono ?_
      rintro e_t_13 wt_13 ⟨rfl, bt_13⟩
      have HBwt_13 := Lib.hid (Below.step HBwt_8.out bt_13)
      replace ks_0_0 := cell_below bt_13 ks_0_0
      replace ks_0_1 := cell_below bt_13 ks_0_1
      replace ks_0_2 := cell_below bt_13 ks_0_2
      replace ks_0_3 := cell_below bt_13 ks_0_3
      clear bt_13
      replace H := app_hid H
      replace H := join_hid H
      cases t_13 with
      | false =>
        replace H := ite_f H
        replace H := app_hid H
        obtain rfl := ret_hid H
        go_wp2_with fail
        go_ret
        exact ⟨rfl, HBwt_13.out⟩
      | true =>
        replace H := ite_t H
        replace H := bind_hid H
        obtain ⟨t_18, qt_18, H⟩ := H
        go_wp2_with fail
        go_at_call 94
        refine (Go.Proofs.Ytpaakpbbahbhcaa.GiAreTraits.C (s_0_traits) A0_3 c0_3 _   (Lib.hid (Cells.below M0_3.out HBwt_13.out)) N0_3 qt_18).mono ?_
        rintro e_t_18 wt_18 ⟨rfl, bt_18⟩
        have HBwt_18 := Lib.hid (Below.step HBwt_13.out bt_18)
        replace ks_0_0 := cell_below bt_18 ks_0_0
        replace ks_0_1 := cell_below bt_18 ks_0_1
        replace ks_0_2 := cell_below bt_18 ks_0_2
        replace ks_0_3 := cell_below bt_18 ks_0_3
        clear bt_18
        replace H := app_hid H
        obtain rfl := ret_hid H
        go_wp2_with fail
        go_ret
        exact ⟨rfl, HBwt_18.out⟩
end Go.Proofs.Ytpaakpbbahbhcaa.GiIsSighting

/- loop.example/g01062/impl.idOfSighting as a plain function, and the contract of the program's: where the plain one has an answer, the program has it. Conditions: slices read as lists. -/
namespace Go.Proofs.Ytpaakpbbahbhcaa.GiIdOfSighting
set_option linter.unusedVariables false
set_option linter.unusedSimpArgs false
open Go.RowKit
open Go.Proofs.Ytpaakpbbahbhcaa.Rowed Go.Proofs.Ytpaakpbbahbhcaa.Turn Go.Proofs.Ytpaakpbbahbhcaa.Aid Go.Proofs.Ytpaakpbbahbhcaa.GoP Go.Proofs.Ytpaakpbbahbhcaa.GoM

def P (s_0_id : Int) (s_0_year : Int) (s_0_town : ByteArray) (s_0_traits : (List Int)) : Option (Int) :=
  some s_0_id

set_option maxRecDepth 100000 in
set_option maxHeartbeats 2000000 in
theorem C (s_0_id : Int) (s_0_year : Int) (s_0_town : ByteArray) (s_0_traits : (List Int)) (A0_3 : Option Addr) (c0_3 : Nat)  (w : World) (M0_3 : Hid (Cells w 1 A0_3 s_0_traits.length (Go.Proofs.Ytpaakpbbahbhcaa.HelpInt.iv s_0_traits))) (N0_3 : Hid (s_0_traits.length ≤ 9223372036854775807))  {r : Int} (H : Hid (P s_0_id s_0_year s_0_town s_0_traits = some r)) :
    Calls Try.prog 68 #[.agg #[.int .i64 s_0_id, .int .i64 s_0_year, .string s_0_town, .slice A0_3 s_0_traits.length c0_3]] w (Gives (.int .i64 r) w) := by
  have HB := Lib.hid (Below.refl w.heap.size w)
  unfold P at H
  have N0_3o := N0_3.out
  go_enter Try.func68, Try.ntmps68
  obtain ⟨w_s_0, hw_s_0⟩ : ∃ x, w.alloc (.cells #[.int .i64 s_0_id, .int .i64 s_0_year, .string s_0_town, .slice A0_3 s_0_traits.length c0_3] 67) = x := ⟨_, rfl⟩
  have bw_s_0 : Below w.heap.size w w_s_0 := by rw [← hw_s_0]; exact (Below.refl _ _).alloc (Nat.le_refl _) _
  have HBw_s_0 := Lib.hid (Below.step HB.out bw_s_0)
  clear bw_s_0
  have ks_0_0 : w_s_0.cell? ⟨w.heap.size, 0, none⟩ = some (.int .i64 s_0_id) := by rw [← hw_s_0]; exact box_new _ _ _ 0 _ rfl
  have ks_0_1 : w_s_0.cell? ⟨w.heap.size, 1, none⟩ = some (.int .i64 s_0_year) := by rw [← hw_s_0]; exact box_new _ _ _ 1 _ rfl
  have ks_0_2 : w_s_0.cell? ⟨w.heap.size, 2, none⟩ = some (.string s_0_town) := by rw [← hw_s_0]; exact box_new _ _ _ 2 _ rfl
  have ks_0_3 : w_s_0.cell? ⟨w.heap.size, 3, none⟩ = some (.slice A0_3 s_0_traits.length c0_3) := by rw [← hw_s_0]; exact box_new _ _ _ 3 _ rfl
  obtain rfl := ret_hid H
  go_wp2_with fail
  go_ret
  exact ⟨rfl, HBw_s_0.out⟩
end Go.Proofs.Ytpaakpbbahbhcaa.GiIdOfSighting

/- loop.example/g01062/impl.areByKey[loop.example/g01062/impl.Sighting,int] as a plain function, and the contract of the program's: where the plain one has an answer, the program has it. Conditions: slices read as lists. -/
namespace Go.Proofs.Ytpaakpbbahbhcaa.GiAreByKeySightingIntiIsSightingiIdOfSighting
set_option linter.unusedVariables false
set_option linter.unusedSimpArgs false
open Go.RowKit
open Go.Proofs.Ytpaakpbbahbhcaa.Rowed Go.Proofs.Ytpaakpbbahbhcaa.Turn Go.Proofs.Ytpaakpbbahbhcaa.Aid Go.Proofs.Ytpaakpbbahbhcaa.GoP Go.Proofs.Ytpaakpbbahbhcaa.GoM

def l0 (list : (List Go.Proofs.Ytpaakpbbahbhcaa.PSighting.Sighting)) (k0 : Nat) (s : Unit) (nx0 bk0 : Unit → Option (Bool)) : Option (Bool) :=
  
  Option.bind (idx list (k0 : Int)) fun (yt_11 : Go.Proofs.Ytpaakpbbahbhcaa.PSighting.Sighting) =>
  unSighting yt_11 fun (t_11_id : Int) (t_11_year : Int) (t_11_town : ByteArray) (t_11_traits : (List Int)) =>
  Option.bind (Go.Proofs.Ytpaakpbbahbhcaa.GiIsSighting.P t_11_id t_11_year t_11_town t_11_traits) fun (t_18 : Bool) =>
  letK (!t_18) fun (t_19 : Bool) =>
  joinK (fun (t_36 : Bool) =>
  iteK t_36
  (some false)
  (appK nx0 ())) fun jt_36 => iteK t_19 (appK jt_36 true) (letK (decide (0 < (k0 : Int))) fun (t_22 : Bool) =>
  joinK (fun (t_35 : Bool) =>
  appK jt_36 t_35) fun jt_35 => iteK t_22 (Option.bind (Go.Proofs.Ytpaakpbbahbhcaa.GiIdOfSighting.P t_11_id t_11_year t_11_town t_11_traits) fun (t_26 : Int) =>
  letK (IntKind.i64.wrap ((k0 : Int) - 1)) fun (t_30 : Int) =>
  Option.bind (idx list t_30) fun (yt_31 : Go.Proofs.Ytpaakpbbahbhcaa.PSighting.Sighting) =>
  unSighting yt_31 fun (t_31_id : Int) (t_31_year : Int) (t_31_town : ByteArray) (t_31_traits : (List Int)) =>
  Option.bind (Go.Proofs.Ytpaakpbbahbhcaa.GiIdOfSighting.P t_31_id t_31_year t_31_town t_31_traits) fun (t_33 : Int) =>
  letK (decide (t_26 ≤ t_33)) fun (t_34 : Bool) =>
  appK jt_35 t_34) (appK jt_35 false))

def e0  (s : Unit) : Option (Bool) :=
  
  some true

def P (list : (List Go.Proofs.Ytpaakpbbahbhcaa.PSighting.Sighting)) (most : Int) : Option (Bool) :=
  letK (decide (most < (list.length : Int))) fun (t_4 : Bool) =>
  iteK t_4
  (some false)
  (cntK (l0 list) (list.length) 0 () (e0 ))

set_option maxRecDepth 100000 in
set_option maxHeartbeats 2000000 in
theorem C (list : (List Go.Proofs.Ytpaakpbbahbhcaa.PSighting.Sighting)) (most : Int) (A0 : Option Addr) (c0 : Nat)  (w : World) (M0 : Hid (Go.Proofs.Ytpaakpbbahbhcaa.GoV.ReadNest w Go.Proofs.Ytpaakpbbahbhcaa.GoVSighting.lay A0 list)) (N0 : Hid (list.length ≤ 9223372036854775807))  {r : Bool} (H : Hid (P list most = some r)) :
    Calls Try.prog 66 #[.slice A0 list.length c0, .int .i64 most, .func (.func 67) #[] #[], .func (.func 68) #[] #[]] w (Gives (.bool r) w) := by
  have HB := Lib.hid (Below.refl w.heap.size w)
  unfold P at H
  have N0o := N0.out
  go_enter Try.func66, Try.ntmps66
  replace H := let_hid H
  obtain ⟨t_4, ht_4, H⟩ := H
  cases t_4 with
  | false =>
    replace H := ite_f H
    go_wp2_with fail
    go_loopg [17] (list.length) (fun m_ v17_ wr => ∃ (k0 : Nat) , k0 + m_ = list.length ∧ v17_ = .int .i64 (k0 : Int) ∧ Hid (cntK (l0 list) m_ k0 () (e0 ) = some r) ∧ Hid (Below w.heap.size w wr))
    case atStart => exact ⟨0, by omega, rfl, H, HB⟩
    case round =>
      obtain ⟨k0, hkm0, rfl, H, HBwr0⟩ := hrel
      rename World => wr0
      cases gk with
      | zero =>
        obtain rfl : k0 = list.length := by omega
        have hc0 : decide (((list.length : Nat) : Int) < ((list.length : Nat) : Int)) = false := by simp
        replace H := cnt_zero H
        unfold e0 at H
        obtain rfl := ret_hid H
        go_wp2_with fail
        go_ret
        exact ⟨rfl, HBwr0.out⟩
      | succ m0 =>
        have hlt0 : k0 < list.length := by omega
        have hc0 : decide ((k0 : Int) < ((list.length : Nat) : Int)) = true := by simp; omega
        replace H := cnt_succ H
        unfold l0 at H
        replace H := idx_hid H
        obtain ⟨nt_11, yt_11, et_11, lt_11, gt_11, H⟩ := H
        obtain rfl : k0 = nt_11 := by omega
        clear et_11
        obtain ⟨t_11_id, t_11_year, t_11_town, t_11_traits⟩ := yt_11
        replace H := unSighting_hid H
        obtain ⟨bbt_11, oot_11, zt_11, Art_11, crt_11, eAt_11, zzt_11, hKt_11, hrt_11, hqt_11, hnt_11⟩ := Go.Proofs.Ytpaakpbbahbhcaa.GoV.nest_at M0.out (k := k0) lt_11
        obtain rfl := Option.some.inj (gt_11.out.symm.trans zzt_11)
        clear zzt_11
        subst eAt_11
        have hct_11_0 : w.cell? ⟨bbt_11, oot_11 + k0 * 4, none⟩ = some (.int .i64 t_11_id) := hKt_11 0 _ rfl
        have hct_11_1 : w.cell? ⟨bbt_11, oot_11 + k0 * 4 + 1, none⟩ = some (.int .i64 t_11_year) := hKt_11 1 _ rfl
        have hct_11_2 : w.cell? ⟨bbt_11, oot_11 + k0 * 4 + 2, none⟩ = some (.string t_11_town) := hKt_11 2 _ rfl
        have hct_11_3 : w.cell? ⟨bbt_11, oot_11 + k0 * 4 + 3, none⟩ = some (.slice Art_11 t_11_traits.length crt_11) := hKt_11 3 _ rfl
        clear hKt_11
        have ltt_11 := cell_lt hct_11_0
        replace hct_11_0 := cell_below HBwr0.out hct_11_0
        replace hct_11_1 := cell_below HBwr0.out hct_11_1
        replace hct_11_2 := cell_below HBwr0.out hct_11_2
        replace hct_11_3 := cell_below HBwr0.out hct_11_3
        have Mrt_11 := Lib.hid hrt_11
        have Qrt_11 := Lib.hid hqt_11
        have Nrt_11 := Lib.hid hnt_11
        clear hrt_11 hqt_11 hnt_11
        have b0t_11 : (0 : Int) ≤ (k0 : Int) := by omega
        have b1t_11 : (k0 : Int) < ((list.length : Nat) : Int) := by omega
        have b2t_11 : ((k0 : Int)).toNat = k0 := by omega
        obtain ⟨w_e_13, hw_e_13⟩ : ∃ x, wr0.alloc (.cells #[.int .i64 t_11_id, .int .i64 t_11_year, .string t_11_town, .slice Art_11 t_11_traits.length crt_11] 67) = x := ⟨_, rfl⟩
        have bw_e_13 : Below wr0.heap.size wr0 w_e_13 := by rw [← hw_e_13]; exact (Below.refl _ _).alloc (Nat.le_refl _) _
        have HBw_e_13 := Lib.hid (Below.step HBwr0.out bw_e_13)
        have hct_11_0__120 := cell_below bw_e_13 hct_11_0
        have hct_11_1__121 := cell_below bw_e_13 hct_11_1
        have hct_11_2__122 := cell_below bw_e_13 hct_11_2
        have hct_11_3__123 := cell_below bw_e_13 hct_11_3
        clear bw_e_13
        have ke_13_0 : w_e_13.cell? ⟨wr0.heap.size, 0, none⟩ = some (.int .i64 t_11_id) := by rw [← hw_e_13]; exact box_new _ _ _ 0 _ rfl
        have ke_13_1 : w_e_13.cell? ⟨wr0.heap.size, 1, none⟩ = some (.int .i64 t_11_year) := by rw [← hw_e_13]; exact box_new _ _ _ 1 _ rfl
        have ke_13_2 : w_e_13.cell? ⟨wr0.heap.size, 2, none⟩ = some (.string t_11_town) := by rw [← hw_e_13]; exact box_new _ _ _ 2 _ rfl
        have ke_13_3 : w_e_13.cell? ⟨wr0.heap.size, 3, none⟩ = some (.slice Art_11 t_11_traits.length crt_11) := by rw [← hw_e_13]; exact box_new _ _ _ 3 _ rfl
        go_wp2_with fail
        clear hct_11_0 hct_11_1 hct_11_2 hct_11_3
        have Hhct_11_0__120 := Lib.hid hct_11_0__120
        replace hct_11_0__120 := cell_regrown hct_11_0__120
        have Hhct_11_1__121 := Lib.hid hct_11_1__121
        replace hct_11_1__121 := cell_regrown hct_11_1__121
        have Hhct_11_2__122 := Lib.hid hct_11_2__122
        replace hct_11_2__122 := cell_regrown hct_11_2__122
        have Hhct_11_3__123 := Lib.hid hct_11_3__123
        replace hct_11_3__123 := cell_regrown hct_11_3__123
        have Hke_13_0 := Lib.hid ke_13_0
        replace ke_13_0 := cell_regrown ke_13_0
        have Hke_13_1 := Lib.hid ke_13_1
        replace ke_13_1 := cell_regrown ke_13_1
        have Hke_13_2 := Lib.hid ke_13_2
        replace ke_13_2 := cell_regrown ke_13_2
        have Hke_13_3 := Lib.hid ke_13_3
        replace ke_13_3 := cell_regrown ke_13_3
        replace H := bind_hid H
        obtain ⟨t_18, qt_18, H⟩ := H
        have nt_18 : ∀ d os, Calls Try.prog 67 #[.agg #[.int .i64 t_11_id, .int .i64 t_11_year, .string t_11_town, .slice Art_11 t_11_traits.length crt_11]] (Go.Sort.grow (redrawn w_e_13 d) os) fun e w'' => e = .returned (.bool t_18) ∧ ∃ p : Regrown, w'' = Go.Sort.grow (redrawn w_e_13 p.d) p.os := fun d os => Calls.regrown_of (Go.Proofs.Ytpaakpbbahbhcaa.GiIsSighting.C (t_11_id) (t_11_year) (t_11_town) (t_11_traits) Art_11 crt_11 _   (Lib.hid (Cells.below (Cells.below Mrt_11.out HBw_e_13.out) (below_regrown _ _ _))) Nrt_11 qt_18)
        cases t_18 with
        | false =>
          replace H := let_hid H
          obtain ⟨t_19, ht_19, H⟩ := H
          obtain rfl : t_19 = true := ht_19.symm
          replace H := join_hid H
          replace H := ite_t H
          replace H := app_hid H
          refine wp_region_quiet_below (by kernel_rfl) (by kernel_rfl) ?_
          repeat (go_big_quiet_step (first | (go_at_call 67; exact nt_18 _ _)))
          refine wpQuiet_nil ?_
          intro Y6 hY6
          replace hY6 := below_class hY6
          clear nt_18
          replace hct_11_0__120 := Hhct_11_0__120.out
          clear Hhct_11_0__120
          replace hct_11_1__121 := Hhct_11_1__121.out
          clear Hhct_11_1__121
          replace hct_11_2__122 := Hhct_11_2__122.out
          clear Hhct_11_2__122
          replace hct_11_3__123 := Hhct_11_3__123.out
          clear Hhct_11_3__123
          replace ke_13_0 := Hke_13_0.out
          clear Hke_13_0
          replace ke_13_1 := Hke_13_1.out
          clear Hke_13_1
          replace ke_13_2 := Hke_13_2.out
          clear Hke_13_2
          replace ke_13_3 := Hke_13_3.out
          clear Hke_13_3
          have HBY6 := Lib.hid (Below.step HBw_e_13.out hY6)
          replace hct_11_0__120 := cell_below hY6 hct_11_0__120
          replace hct_11_1__121 := cell_below hY6 hct_11_1__121
          replace hct_11_2__122 := cell_below hY6 hct_11_2__122
          replace hct_11_3__123 := cell_below hY6 hct_11_3__123
          replace ke_13_0 := cell_below hY6 ke_13_0
          replace ke_13_1 := cell_below hY6 ke_13_1
          replace ke_13_2 := cell_below hY6 ke_13_2
          replace ke_13_3 := cell_below hY6 ke_13_3
          clear hY6
          replace H := ite_t H
          obtain rfl := ret_hid H
          go_wp2_with fail
          go_ret
          exact ⟨rfl, HBY6.out⟩
        | true =>
          replace H := let_hid H
          obtain ⟨t_19, ht_19, H⟩ := H
          obtain rfl : t_19 = false := ht_19.symm
          replace H := join_hid H
          replace H := ite_f H
          replace H := let_hid H
          obtain ⟨t_22, ht_22, H⟩ := H
          replace H := join_hid H
          cases t_22 with
          | false =>
            have nht_22 : ¬ (0 < k0) := by have := of_decide_eq_false ht_22; omega
            replace H := ite_f H
            replace H := app_hid H
            replace H := app_hid H
            refine wp_region_quiet_below (by kernel_rfl) (by kernel_rfl) ?_
            repeat (go_big_quiet_step (first | (go_at_call 67; exact nt_18 _ _)))
            refine wpQuiet_nil ?_
            intro Y6 hY6
            replace hY6 := below_class hY6
            clear nt_18
            replace hct_11_0__120 := Hhct_11_0__120.out
            clear Hhct_11_0__120
            replace hct_11_1__121 := Hhct_11_1__121.out
            clear Hhct_11_1__121
            replace hct_11_2__122 := Hhct_11_2__122.out
            clear Hhct_11_2__122
            replace hct_11_3__123 := Hhct_11_3__123.out
            clear Hhct_11_3__123
            replace ke_13_0 := Hke_13_0.out
            clear Hke_13_0
            replace ke_13_1 := Hke_13_1.out
            clear Hke_13_1
            replace ke_13_2 := Hke_13_2.out
            clear Hke_13_2
            replace ke_13_3 := Hke_13_3.out
            clear Hke_13_3
            have HBY6 := Lib.hid (Below.step HBw_e_13.out hY6)
            replace hct_11_0__120 := cell_below hY6 hct_11_0__120
            replace hct_11_1__121 := cell_below hY6 hct_11_1__121
            replace hct_11_2__122 := cell_below hY6 hct_11_2__122
            replace hct_11_3__123 := cell_below hY6 hct_11_3__123
            replace ke_13_0 := cell_below hY6 ke_13_0
            replace ke_13_1 := cell_below hY6 ke_13_1
            replace ke_13_2 := cell_below hY6 ke_13_2
            replace ke_13_3 := cell_below hY6 ke_13_3
            clear hY6
            replace H := ite_f H
            replace H := app_hid H
            go_wp2_with fail
            go_roundg m0
            case measure => omega
            case rel => exact ⟨k0 + 1, by omega, by go_num, H, HBY6⟩
          | true =>
            have nht_22 : 0 < k0 := by have := of_decide_eq_true ht_22; omega
            replace H := ite_t H
            replace H := bind_hid H
            obtain ⟨t_26, qt_26, H⟩ := H
            have nt_26 : ∀ d os, Calls Try.prog 68 #[.agg #[.int .i64 t_11_id, .int .i64 t_11_year, .string t_11_town, .slice Art_11 t_11_traits.length crt_11]] (Go.Sort.grow (redrawn w_e_13 d) os) fun e w'' => e = .returned (.int .i64 t_26) ∧ ∃ p : Regrown, w'' = Go.Sort.grow (redrawn w_e_13 p.d) p.os := fun d os => Calls.regrown_of (Go.Proofs.Ytpaakpbbahbhcaa.GiIdOfSighting.C (t_11_id) (t_11_year) (t_11_town) (t_11_traits) Art_11 crt_11 _   (Lib.hid (Cells.below (Cells.below Mrt_11.out HBw_e_13.out) (below_regrown _ _ _))) Nrt_11 qt_26)
            replace H := let_hid H
            obtain ⟨t_30, ht_30, H⟩ := H
            replace H := idx_hid H
            obtain ⟨nt_31, yt_31, et_31, lt_31, gt_31, H⟩ := H
            subst et_31
            obtain ⟨t_31_id, t_31_year, t_31_town, t_31_traits⟩ := yt_31
            replace H := unSighting_hid H
            obtain ⟨bbt_31, oot_31, zt_31, Art_31, crt_31, eAt_31, zzt_31, hKt_31, hrt_31, hqt_31, hnt_31⟩ := Go.Proofs.Ytpaakpbbahbhcaa.GoV.nest_at M0.out (k := nt_31) lt_31
            obtain rfl := Option.some.inj (gt_31.out.symm.trans zzt_31)
            clear zzt_31
            simp only [Option.some.injEq, Addr.mk.injEq] at eAt_31
            obtain ⟨rfl, rfl, _⟩ := eAt_31
            have hct_31_0 : w.cell? ⟨bbt_11, oot_11 + nt_31 * 4, none⟩ = some (.int .i64 t_31_id) := hKt_31 0 _ rfl
            have hct_31_1 : w.cell? ⟨bbt_11, oot_11 + nt_31 * 4 + 1, none⟩ = some (.int .i64 t_31_year) := hKt_31 1 _ rfl
            have hct_31_2 : w.cell? ⟨bbt_11, oot_11 + nt_31 * 4 + 2, none⟩ = some (.string t_31_town) := hKt_31 2 _ rfl
            have hct_31_3 : w.cell? ⟨bbt_11, oot_11 + nt_31 * 4 + 3, none⟩ = some (.slice Art_31 t_31_traits.length crt_31) := hKt_31 3 _ rfl
            clear hKt_31
            have ltt_31 := cell_lt hct_31_0
            replace hct_31_0 := cell_below HBw_e_13.out hct_31_0
            replace hct_31_1 := cell_below HBw_e_13.out hct_31_1
            replace hct_31_2 := cell_below HBw_e_13.out hct_31_2
            replace hct_31_3 := cell_below HBw_e_13.out hct_31_3
            have Mrt_31 := Lib.hid hrt_31
            have Qrt_31 := Lib.hid hqt_31
            have Nrt_31 := Lib.hid hnt_31
            clear hrt_31 hqt_31 hnt_31
            have b0t_31 : (0 : Int) ≤ (nt_31 : Int) := by omega
            have b1t_31 : (nt_31 : Int) < ((list.length : Nat) : Int) := by omega
            have b2t_31 : ((nt_31 : Int)).toNat = nt_31 := by omega
            have Hhct_31_0 := Lib.hid hct_31_0
            replace hct_31_0 := cell_regrown hct_31_0
            have Hhct_31_1 := Lib.hid hct_31_1
            replace hct_31_1 := cell_regrown hct_31_1
            have Hhct_31_2 := Lib.hid hct_31_2
            replace hct_31_2 := cell_regrown hct_31_2
            have Hhct_31_3 := Lib.hid hct_31_3
            replace hct_31_3 := cell_regrown hct_31_3
            replace H := bind_hid H
            obtain ⟨t_33, qt_33, H⟩ := H
            have nt_33 : ∀ d os, Calls Try.prog 68 #[.agg #[.int .i64 t_31_id, .int .i64 t_31_year, .string t_31_town, .slice Art_31 t_31_traits.length crt_31]] (Go.Sort.grow (redrawn w_e_13 d) os) fun e w'' => e = .returned (.int .i64 t_33) ∧ ∃ p : Regrown, w'' = Go.Sort.grow (redrawn w_e_13 p.d) p.os := fun d os => Calls.regrown_of (Go.Proofs.Ytpaakpbbahbhcaa.GiIdOfSighting.C (t_31_id) (t_31_year) (t_31_town) (t_31_traits) Art_31 crt_31 _   (Lib.hid (Cells.below (Cells.below Mrt_31.out HBw_e_13.out) (below_regrown _ _ _))) Nrt_31 qt_33)
            replace H := let_hid H
            obtain ⟨t_34, ht_34, H⟩ := H
            replace H := app_hid H
            replace H := app_hid H
            refine wp_region_quiet_below (by kernel_rfl) (by kernel_rfl) ?_
            repeat (go_big_quiet_step (first | (go_at_call 68; with_reducible exact nt_26 _ _) | (go_at_call 68; with_reducible exact nt_33 _ _) | (go_at_call 67; exact nt_18 _ _) | (go_at_call 68; exact nt_26 _ _) | (go_at_call 68; exact nt_33 _ _)))
            refine wpQuiet_nil ?_
            intro Y6 hY6
            replace hY6 := below_class hY6
            clear nt_18 nt_26 nt_33
            replace hct_11_0__120 := Hhct_11_0__120.out
            clear Hhct_11_0__120
            replace hct_11_1__121 := Hhct_11_1__121.out
            clear Hhct_11_1__121
            replace hct_11_2__122 := Hhct_11_2__122.out
            clear Hhct_11_2__122
            replace hct_11_3__123 := Hhct_11_3__123.out
            clear Hhct_11_3__123
            replace ke_13_0 := Hke_13_0.out
            clear Hke_13_0
            replace ke_13_1 := Hke_13_1.out
            clear Hke_13_1
            replace ke_13_2 := Hke_13_2.out
            clear Hke_13_2
            replace ke_13_3 := Hke_13_3.out
            clear Hke_13_3
            replace hct_31_0 := Hhct_31_0.out
            clear Hhct_31_0
            replace hct_31_1 := Hhct_31_1.out
            clear Hhct_31_1
            replace hct_31_2 := Hhct_31_2.out
            clear Hhct_31_2
            replace hct_31_3 := Hhct_31_3.out
            clear Hhct_31_3
            have HBY6 := Lib.hid (Below.step HBw_e_13.out hY6)
            replace hct_11_0__120 := cell_below hY6 hct_11_0__120
            replace hct_11_1__121 := cell_below hY6 hct_11_1__121
            replace hct_11_2__122 := cell_below hY6 hct_11_2__122
            replace hct_11_3__123 := cell_below hY6 hct_11_3__123
            replace ke_13_0 := cell_below hY6 ke_13_0
            replace ke_13_1 := cell_below hY6 ke_13_1
            replace ke_13_2 := cell_below hY6 ke_13_2
            replace ke_13_3 := cell_below hY6 ke_13_3
            replace hct_31_0 := cell_below hY6 hct_31_0
            replace hct_31_1 := cell_below hY6 hct_31_1
            replace hct_31_2 := cell_below hY6 hct_31_2
            replace hct_31_3 := cell_below hY6 hct_31_3
            clear hY6
            cases t_34 with
            | false =>
              replace H := ite_f H
              replace H := app_hid H
              go_wp2_with fail
              go_roundg m0
              case measure => omega
              case rel => exact ⟨k0 + 1, by omega, by go_num, H, HBY6⟩
            | true =>
              replace H := ite_t H
              obtain rfl := ret_hid H
              go_wp2_with fail
              go_ret
              exact ⟨rfl, HBY6.out⟩
  | true =>
    replace H := ite_t H
    obtain rfl := ret_hid H
    go_wp2_with fail
    go_ret
    exact ⟨rfl, HB.out⟩
end Go.Proofs.Ytpaakpbbahbhcaa.GiAreByKeySightingIntiIsSightingiIdOfSighting

/- loop.example/g01062/impl.AreSightings as a plain function, and the contract of the program's: where the plain one has an answer, the program has it. Conditions: slices read as lists. -/
namespace Go.Proofs.Ytpaakpbbahbhcaa.GiAreSightings
set_option linter.unusedVariables false
set_option linter.unusedSimpArgs false
open Go.RowKit
open Go.Proofs.Ytpaakpbbahbhcaa.Rowed Go.Proofs.Ytpaakpbbahbhcaa.Turn Go.Proofs.Ytpaakpbbahbhcaa.Aid Go.Proofs.Ytpaakpbbahbhcaa.GoP Go.Proofs.Ytpaakpbbahbhcaa.GoM

def P (list : (List Go.Proofs.Ytpaakpbbahbhcaa.PSighting.Sighting)) : Option (Bool) :=
  Option.bind (Go.Proofs.Ytpaakpbbahbhcaa.GiAreByKeySightingIntiIsSightingiIdOfSighting.P list 10) fun (t_2 : Bool) =>
  some t_2

set_option maxRecDepth 100000 in
set_option maxHeartbeats 2000000 in
theorem C (list : (List Go.Proofs.Ytpaakpbbahbhcaa.PSighting.Sighting)) (A0 : Option Addr) (c0 : Nat)  (w : World) (M0 : Hid (Go.Proofs.Ytpaakpbbahbhcaa.GoV.ReadNest w Go.Proofs.Ytpaakpbbahbhcaa.GoVSighting.lay A0 list)) (N0 : Hid (list.length ≤ 9223372036854775807))  {r : Bool} (H : Hid (P list = some r)) :
    Calls Try.prog 28 #[.slice A0 list.length c0] w (Gives (.bool r) w) := by
  have HB := Lib.hid (Below.refl w.heap.size w)
  unfold P at H
  have N0o := N0.out
  go_enter Try.func28, Try.ntmps28
  replace H := bind_hid H
  obtain ⟨t_2, qt_2, H⟩ := H
  go_wp2_with fail
  go_at_call 66
  refine (Go.Proofs.Ytpaakpbbahbhcaa.GiAreByKeySightingIntiIsSightingiIdOfSighting.C (list) (10) A0 c0 _   (Lib.hid (Go.Proofs.Ytpaakpbbahbhcaa.GoV.read_below M0.out HB.out)) N0 qt_2).mono ?_
  rintro e_t_2 wt_2 ⟨rfl, bt_2⟩
  have HBwt_2 := Lib.hid (Below.step HB.out bt_2)
  clear bt_2
  obtain rfl := ret_hid H
  go_wp2_with fail
  go_ret
  exact ⟨rfl, HBwt_2.out⟩
end Go.Proofs.Ytpaakpbbahbhcaa.GiAreSightings

/- loop.example/g01062/laws.eqIntS as a plain function, and the contract of the program's: where the plain one has an answer, the program has it. Conditions: slices read as lists. -/
namespace Go.Proofs.Ytpaakpbbahbhcaa.GlEqIntS
set_option linter.unusedVariables false
set_option linter.unusedSimpArgs false
open Go.RowKit
open Go.Proofs.Ytpaakpbbahbhcaa.Rowed Go.Proofs.Ytpaakpbbahbhcaa.Turn Go.Proofs.Ytpaakpbbahbhcaa.Aid Go.Proofs.Ytpaakpbbahbhcaa.GoP Go.Proofs.Ytpaakpbbahbhcaa.GoM

def l0 (a : (List Int)) (b : (List Int)) (k0 : Nat) (s : Unit) (nx0 bk0 : Unit → Option (Bool)) : Option (Bool) :=
  
  Option.bind (idx a (k0 : Int)) fun (yt_14 : Int) =>
  Option.bind (idx b (k0 : Int)) fun (yt_18 : Int) =>
  letK (yt_14 != yt_18) fun (t_20 : Bool) =>
  iteK t_20
  (some false)
  (appK nx0 ())

def e0  (s : Unit) : Option (Bool) :=
  
  some true

def P (a : (List Int)) (b : (List Int)) : Option (Bool) :=
  letK ((a.length : Int) != (b.length : Int)) fun (t_5 : Bool) =>
  iteK t_5
  (some false)
  (cntK (l0 a b) (a.length) 0 () (e0 ))

set_option maxRecDepth 100000 in
set_option maxHeartbeats 2000000 in
theorem C (a : (List Int)) (b : (List Int)) (A0 : Option Addr) (c0 : Nat) (A1 : Option Addr) (c1 : Nat)  (w : World) (M0 : Hid (Cells w 1 A0 a.length (Go.Proofs.Ytpaakpbbahbhcaa.HelpInt.iv a))) (N0 : Hid (a.length ≤ 9223372036854775807)) (M1 : Hid (Cells w 1 A1 b.length (Go.Proofs.Ytpaakpbbahbhcaa.HelpInt.iv b))) (N1 : Hid (b.length ≤ 9223372036854775807))  {r : Bool} (H : Hid (P a b = some r)) :
    Calls Try.prog 37 #[.slice A0 a.length c0, .slice A1 b.length c1] w (Gives (.bool r) w) := by
  have HB := Lib.hid (Below.refl w.heap.size w)
  unfold P at H
  have N0o := N0.out
  have N1o := N1.out
  go_enter Try.func37, Try.ntmps37
  replace H := let_hid H
  obtain ⟨t_5, ht_5, H⟩ := H
  cases t_5 with
  | false =>
    have Hht_5 : Hid (a.length = b.length) := Lib.hid (by have := bne_eq_false_iff_eq.1 ht_5; omega)
    have nht_5 : (a.length == b.length) = true := beq_iff_eq.2 Hht_5.out
    replace H := ite_f H
    go_wp2_with fail
    go_loopg [5] (a.length) (fun m_ v5_ wr => ∃ (k0 : Nat) , k0 + m_ = a.length ∧ v5_ = .int .i64 (k0 : Int) ∧ Hid (cntK (l0 a b) m_ k0 () (e0 ) = some r) ∧ Hid (Below w.heap.size w wr))
    case atStart => exact ⟨0, by omega, rfl, H, HB⟩
    case round =>
      obtain ⟨k0, hkm0, rfl, H, HBwr0⟩ := hrel
      rename World => wr0
      cases gk with
      | zero =>
        obtain rfl : k0 = a.length := by omega
        have hc0 : decide (((a.length : Nat) : Int) < ((a.length : Nat) : Int)) = false := by simp
        replace H := cnt_zero H
        unfold e0 at H
        obtain rfl := ret_hid H
        go_wp2_with fail
        go_ret
        exact ⟨rfl, HBwr0.out⟩
      | succ m0 =>
        have hlt0 : k0 < a.length := by omega
        have hc0 : decide ((k0 : Int) < ((a.length : Nat) : Int)) = true := by simp; omega
        replace H := cnt_succ H
        unfold l0 at H
        go_wp2_with fail
        replace H := idx_hid H
        obtain ⟨nt_14, yt_14, et_14, lt_14, gt_14, H⟩ := H
        obtain rfl : k0 = nt_14 := by omega
        clear et_14
        obtain ⟨ab_t_14, ao_t_14, zt_14, At_14, z_t_14, ct_14_0⟩ := Go.Proofs.Ytpaakpbbahbhcaa.HelpInt.Ints.at_ M0.out lt_14
        obtain rfl := Option.some.inj (gt_14.out.symm.trans z_t_14)
        subst At_14
        have ltt_14 := cell_lt ct_14_0
        replace ct_14_0 := cell_below HBwr0.out ct_14_0
        clear z_t_14
        have b0t_14 : (0 : Int) ≤ (k0 : Int) := by omega
        have b1t_14 : (k0 : Int) < ((a.length : Nat) : Int) := by omega
        have b2t_14 : ((k0 : Int)).toNat = k0 := by omega
        have Hct_14_0 := Lib.hid ct_14_0
        replace ct_14_0 := cell_regrown ct_14_0
        replace H := idx_hid H
        obtain ⟨nt_18, yt_18, et_18, lt_18, gt_18, H⟩ := H
        obtain rfl : k0 = nt_18 := by omega
        clear et_18
        obtain ⟨ab_t_18, ao_t_18, zt_18, At_18, z_t_18, ct_18_0⟩ := Go.Proofs.Ytpaakpbbahbhcaa.HelpInt.Ints.at_ M1.out lt_18
        obtain rfl := Option.some.inj (gt_18.out.symm.trans z_t_18)
        subst At_18
        have ltt_18 := cell_lt ct_18_0
        replace ct_18_0 := cell_below HBwr0.out ct_18_0
        clear z_t_18
        have b0t_18 : (0 : Int) ≤ (k0 : Int) := by omega
        have b1t_18 : (k0 : Int) < ((b.length : Nat) : Int) := by omega
        have b2t_18 : ((k0 : Int)).toNat = k0 := by omega
        have Hct_18_0 := Lib.hid ct_18_0
        replace ct_18_0 := cell_regrown ct_18_0
        replace H := let_hid H
        obtain ⟨t_20, ht_20, H⟩ := H
        refine wp_region_quiet_below (by kernel_rfl) (by kernel_rfl) ?_
        repeat (go_big_quiet_step (fail))
        refine wpQuiet_nil ?_
        intro Y6 hY6
        replace hY6 := below_class hY6
        replace ct_14_0 := Hct_14_0.out
        clear Hct_14_0
        replace ct_18_0 := Hct_18_0.out
        clear Hct_18_0
        have HBY6 := Lib.hid (Below.step HBwr0.out hY6)
        replace ct_14_0 := cell_below hY6 ct_14_0
        replace ct_18_0 := cell_below hY6 ct_18_0
        clear hY6
        cases t_20 with
        | false =>
          replace H := ite_f H
          replace H := app_hid H
          go_wp2_with fail
          go_roundg m0
          case measure => omega
          case rel => exact ⟨k0 + 1, by omega, by go_num, H, HBY6⟩
        | true =>
          replace H := ite_t H
          obtain rfl := ret_hid H
          go_wp2_with fail
          go_ret
          exact ⟨rfl, HBY6.out⟩
  | true =>
    have nht_5 : ¬ (a.length = b.length) := by have := bne_iff_ne.1 ht_5; omega
    replace H := ite_t H
    obtain rfl := ret_hid H
    go_wp2_with fail
    go_ret
    exact ⟨rfl, HB.out⟩
end Go.Proofs.Ytpaakpbbahbhcaa.GlEqIntS

/- loop.example/g01062/laws.eqSighting as a plain function, and the contract of the program's: where the plain one has an answer, the program has it. Conditions: slices read as lists. -/
namespace Go.Proofs.Ytpaakpbbahbhcaa.GlEqSighting
set_option linter.unusedVariables false
set_option linter.unusedSimpArgs false
open Go.RowKit
open Go.Proofs.Ytpaakpbbahbhcaa.Rowed Go.Proofs.Ytpaakpbbahbhcaa.Turn Go.Proofs.Ytpaakpbbahbhcaa.Aid Go.Proofs.Ytpaakpbbahbhcaa.GoP Go.Proofs.Ytpaakpbbahbhcaa.GoM

def P (a_id : Int) (a_year : Int) (a_town : ByteArray) (a_traits : (List Int)) (b_id : Int) (b_year : Int) (b_town : ByteArray) (b_traits : (List Int)) : Option (Bool) :=
  letK (a_id != b_id) fun (t_7 : Bool) =>
  iteK t_7
  (some false)
  (letK (a_year != b_year) fun (t_13 : Bool) =>
  iteK t_13
  (some false)
  (letK (!(a_town.toList == b_town.toList)) fun (t_19 : Bool) =>
  iteK t_19
  (some false)
  (Option.bind (Go.Proofs.Ytpaakpbbahbhcaa.GlEqIntS.P a_traits b_traits) fun (t_25 : Bool) =>
  letK (!t_25) fun (t_26 : Bool) =>
  iteK t_26
  (some false)
  (some true))))

set_option maxRecDepth 100000 in
set_option maxHeartbeats 2000000 in
theorem C (a_id : Int) (a_year : Int) (a_town : ByteArray) (a_traits : (List Int)) (b_id : Int) (b_year : Int) (b_town : ByteArray) (b_traits : (List Int)) (A0_3 : Option Addr) (c0_3 : Nat) (A1_3 : Option Addr) (c1_3 : Nat)  (w : World) (M0_3 : Hid (Cells w 1 A0_3 a_traits.length (Go.Proofs.Ytpaakpbbahbhcaa.HelpInt.iv a_traits))) (N0_3 : Hid (a_traits.length ≤ 9223372036854775807)) (M1_3 : Hid (Cells w 1 A1_3 b_traits.length (Go.Proofs.Ytpaakpbbahbhcaa.HelpInt.iv b_traits))) (N1_3 : Hid (b_traits.length ≤ 9223372036854775807))  {r : Bool} (H : Hid (P a_id a_year a_town a_traits b_id b_year b_town b_traits = some r)) :
    Calls Try.prog 71 #[.agg #[.int .i64 a_id, .int .i64 a_year, .string a_town, .slice A0_3 a_traits.length c0_3], .agg #[.int .i64 b_id, .int .i64 b_year, .string b_town, .slice A1_3 b_traits.length c1_3]] w (Gives (.bool r) w) := by
  have HB := Lib.hid (Below.refl w.heap.size w)
  unfold P at H
  have N0_3o := N0_3.out
  have N1_3o := N1_3.out
  go_enter Try.func71, Try.ntmps71
  obtain ⟨w_a_0, hw_a_0⟩ : ∃ x, w.alloc (.cells #[.int .i64 a_id, .int .i64 a_year, .string a_town, .slice A0_3 a_traits.length c0_3] 67) = x := ⟨_, rfl⟩
  have bw_a_0 : Below w.heap.size w w_a_0 := by rw [← hw_a_0]; exact (Below.refl _ _).alloc (Nat.le_refl _) _
  have HBw_a_0 := Lib.hid (Below.step HB.out bw_a_0)
  clear bw_a_0
  have ka_0_0 : w_a_0.cell? ⟨w.heap.size, 0, none⟩ = some (.int .i64 a_id) := by rw [← hw_a_0]; exact box_new _ _ _ 0 _ rfl
  have ka_0_1 : w_a_0.cell? ⟨w.heap.size, 1, none⟩ = some (.int .i64 a_year) := by rw [← hw_a_0]; exact box_new _ _ _ 1 _ rfl
  have ka_0_2 : w_a_0.cell? ⟨w.heap.size, 2, none⟩ = some (.string a_town) := by rw [← hw_a_0]; exact box_new _ _ _ 2 _ rfl
  have ka_0_3 : w_a_0.cell? ⟨w.heap.size, 3, none⟩ = some (.slice A0_3 a_traits.length c0_3) := by rw [← hw_a_0]; exact box_new _ _ _ 3 _ rfl
  obtain ⟨w_b_1, hw_b_1⟩ : ∃ x, w_a_0.alloc (.cells #[.int .i64 b_id, .int .i64 b_year, .string b_town, .slice A1_3 b_traits.length c1_3] 67) = x := ⟨_, rfl⟩
  have bw_b_1 : Below w_a_0.heap.size w_a_0 w_b_1 := by rw [← hw_b_1]; exact (Below.refl _ _).alloc (Nat.le_refl _) _
  have HBw_b_1 := Lib.hid (Below.step HBw_a_0.out bw_b_1)
  have ka_0_0__174 := cell_below bw_b_1 ka_0_0
  have ka_0_1__175 := cell_below bw_b_1 ka_0_1
  have ka_0_2__176 := cell_below bw_b_1 ka_0_2
  have ka_0_3__177 := cell_below bw_b_1 ka_0_3
  clear bw_b_1
  have kb_1_0 : w_b_1.cell? ⟨w_a_0.heap.size, 0, none⟩ = some (.int .i64 b_id) := by rw [← hw_b_1]; exact box_new _ _ _ 0 _ rfl
  have kb_1_1 : w_b_1.cell? ⟨w_a_0.heap.size, 1, none⟩ = some (.int .i64 b_year) := by rw [← hw_b_1]; exact box_new _ _ _ 1 _ rfl
  have kb_1_2 : w_b_1.cell? ⟨w_a_0.heap.size, 2, none⟩ = some (.string b_town) := by rw [← hw_b_1]; exact box_new _ _ _ 2 _ rfl
  have kb_1_3 : w_b_1.cell? ⟨w_a_0.heap.size, 3, none⟩ = some (.slice A1_3 b_traits.length c1_3) := by rw [← hw_b_1]; exact box_new _ _ _ 3 _ rfl
  replace H := let_hid H
  obtain ⟨t_7, ht_7, H⟩ := H
  cases t_7 with
  | false =>
    replace H := ite_f H
    replace H := let_hid H
    obtain ⟨t_13, ht_13, H⟩ := H
    cases t_13 with
    | false =>
      replace H := ite_f H
      replace H := let_hid H
      obtain ⟨t_19, ht_19, H⟩ := H
      cases t_19 with
      | false =>
        replace H := ite_f H
        replace H := bind_hid H
        obtain ⟨t_25, qt_25, H⟩ := H
        go_wp2_with fail
        clear ka_0_0 ka_0_1 ka_0_2 ka_0_3
        go_at_call 37
        refine (Go.Proofs.Ytpaakpbbahbhcaa.GlEqIntS.C (a_traits) (b_traits) A0_3 c0_3 A1_3 c1_3 _   (Lib.hid (Cells.below M0_3.out HBw_b_1.out)) N0_3 (Lib.hid (Cells.below M1_3.out HBw_b_1.out)) N1_3 qt_25).mono ?_
        rintro e_t_25 wt_25 ⟨rfl, bt_25⟩
        have HBwt_25 := Lib.hid (Below.step HBw_b_1.out bt_25)
        replace ka_0_0__174 := cell_below bt_25 ka_0_0__174
        replace ka_0_1__175 := cell_below bt_25 ka_0_1__175
        replace ka_0_2__176 := cell_below bt_25 ka_0_2__176
        replace ka_0_3__177 := cell_below bt_25 ka_0_3__177
        replace kb_1_0 := cell_below bt_25 kb_1_0
        replace kb_1_1 := cell_below bt_25 kb_1_1
        replace kb_1_2 := cell_below bt_25 kb_1_2
        replace kb_1_3 := cell_below bt_25 kb_1_3
        clear bt_25
        cases t_25 with
        | false =>
          replace H := let_hid H
          obtain ⟨t_26, ht_26, H⟩ := H
          obtain rfl : t_26 = true := ht_26.symm
          replace H := ite_t H
          obtain rfl := ret_hid H
          go_wp2_with fail
          go_ret
          exact ⟨rfl, HBwt_25.out⟩
        | true =>
          replace H := let_hid H
          obtain ⟨t_26, ht_26, H⟩ := H
          obtain rfl : t_26 = false := ht_26.symm
          replace H := ite_f H
          obtain rfl := ret_hid H
          go_wp2_with fail
          go_ret
          exact ⟨rfl, HBwt_25.out⟩
      | true =>
        replace H := ite_t H
        obtain rfl := ret_hid H
        go_wp2_with fail
        go_ret
        exact ⟨rfl, HBw_b_1.out⟩
    | true =>
      replace H := ite_t H
      obtain rfl := ret_hid H
      go_wp2_with fail
      go_ret
      exact ⟨rfl, HBw_b_1.out⟩
  | true =>
    replace H := ite_t H
    obtain rfl := ret_hid H
    go_wp2_with fail
    go_ret
    exact ⟨rfl, HBw_b_1.out⟩
end Go.Proofs.Ytpaakpbbahbhcaa.GlEqSighting

/- loop.example/g01062/laws.eqSightingS as a plain function, and the contract of the program's: where the plain one has an answer, the program has it. Conditions: slices read as lists. -/
namespace Go.Proofs.Ytpaakpbbahbhcaa.GlEqSightingS
set_option linter.unusedVariables false
set_option linter.unusedSimpArgs false
open Go.RowKit
open Go.Proofs.Ytpaakpbbahbhcaa.Rowed Go.Proofs.Ytpaakpbbahbhcaa.Turn Go.Proofs.Ytpaakpbbahbhcaa.Aid Go.Proofs.Ytpaakpbbahbhcaa.GoP Go.Proofs.Ytpaakpbbahbhcaa.GoM

def l0 (a : (List Go.Proofs.Ytpaakpbbahbhcaa.PSighting.Sighting)) (b : (List Go.Proofs.Ytpaakpbbahbhcaa.PSighting.Sighting)) (k0 : Nat) (s : Unit) (nx0 bk0 : Unit → Option (Bool)) : Option (Bool) :=
  
  Option.bind (idx a (k0 : Int)) fun (yt_14 : Go.Proofs.Ytpaakpbbahbhcaa.PSighting.Sighting) =>
  unSighting yt_14 fun (t_14_id : Int) (t_14_year : Int) (t_14_town : ByteArray) (t_14_traits : (List Int)) =>
  Option.bind (idx b (k0 : Int)) fun (yt_18 : Go.Proofs.Ytpaakpbbahbhcaa.PSighting.Sighting) =>
  unSighting yt_18 fun (t_18_id : Int) (t_18_year : Int) (t_18_town : ByteArray) (t_18_traits : (List Int)) =>
  Option.bind (Go.Proofs.Ytpaakpbbahbhcaa.GlEqSighting.P t_14_id t_14_year t_14_town t_14_traits t_18_id t_18_year t_18_town t_18_traits) fun (t_20 : Bool) =>
  letK (!t_20) fun (t_21 : Bool) =>
  iteK t_21
  (some false)
  (appK nx0 ())

def e0  (s : Unit) : Option (Bool) :=
  
  some true

def P (a : (List Go.Proofs.Ytpaakpbbahbhcaa.PSighting.Sighting)) (b : (List Go.Proofs.Ytpaakpbbahbhcaa.PSighting.Sighting)) : Option (Bool) :=
  letK ((a.length : Int) != (b.length : Int)) fun (t_5 : Bool) =>
  iteK t_5
  (some false)
  (cntK (l0 a b) (a.length) 0 () (e0 ))

set_option maxRecDepth 100000 in
set_option maxHeartbeats 2000000 in
theorem C (a : (List Go.Proofs.Ytpaakpbbahbhcaa.PSighting.Sighting)) (b : (List Go.Proofs.Ytpaakpbbahbhcaa.PSighting.Sighting)) (A0 : Option Addr) (c0 : Nat) (A1 : Option Addr) (c1 : Nat)  (w : World) (M0 : Hid (Go.Proofs.Ytpaakpbbahbhcaa.GoV.ReadNest w Go.Proofs.Ytpaakpbbahbhcaa.GoVSighting.lay A0 a)) (N0 : Hid (a.length ≤ 9223372036854775807)) (M1 : Hid (Go.Proofs.Ytpaakpbbahbhcaa.GoV.ReadNest w Go.Proofs.Ytpaakpbbahbhcaa.GoVSighting.lay A1 b)) (N1 : Hid (b.length ≤ 9223372036854775807))  {r : Bool} (H : Hid (P a b = some r)) :
    Calls Try.prog 32 #[.slice A0 a.length c0, .slice A1 b.length c1] w (Gives (.bool r) w) := by
  have HB := Lib.hid (Below.refl w.heap.size w)
  unfold P at H
  have N0o := N0.out
  have N1o := N1.out
  go_enter Try.func32, Try.ntmps32
  replace H := let_hid H
  obtain ⟨t_5, ht_5, H⟩ := H
  cases t_5 with
  | false =>
    have Hht_5 : Hid (a.length = b.length) := Lib.hid (by have := bne_eq_false_iff_eq.1 ht_5; omega)
    have nht_5 : (a.length == b.length) = true := beq_iff_eq.2 Hht_5.out
    replace H := ite_f H
    go_wp2_with fail
    go_loopg [5] (a.length) (fun m_ v5_ wr => ∃ (k0 : Nat) , k0 + m_ = a.length ∧ v5_ = .int .i64 (k0 : Int) ∧ Hid (cntK (l0 a b) m_ k0 () (e0 ) = some r) ∧ Hid (Below w.heap.size w wr))
    case atStart => exact ⟨0, by omega, rfl, H, HB⟩
    case round =>
      obtain ⟨k0, hkm0, rfl, H, HBwr0⟩ := hrel
      rename World => wr0
      cases gk with
      | zero =>
        obtain rfl : k0 = a.length := by omega
        have hc0 : decide (((a.length : Nat) : Int) < ((a.length : Nat) : Int)) = false := by simp
        replace H := cnt_zero H
        unfold e0 at H
        obtain rfl := ret_hid H
        go_wp2_with fail
        go_ret
        exact ⟨rfl, HBwr0.out⟩
      | succ m0 =>
        have hlt0 : k0 < a.length := by omega
        have hc0 : decide ((k0 : Int) < ((a.length : Nat) : Int)) = true := by simp; omega
        replace H := cnt_succ H
        unfold l0 at H
        go_wp2_with fail
        replace H := idx_hid H
        obtain ⟨nt_14, yt_14, et_14, lt_14, gt_14, H⟩ := H
        obtain rfl : k0 = nt_14 := by omega
        clear et_14
        obtain ⟨t_14_id, t_14_year, t_14_town, t_14_traits⟩ := yt_14
        replace H := unSighting_hid H
        obtain ⟨bbt_14, oot_14, zt_14, Art_14, crt_14, eAt_14, zzt_14, hKt_14, hrt_14, hqt_14, hnt_14⟩ := Go.Proofs.Ytpaakpbbahbhcaa.GoV.nest_at M0.out (k := k0) lt_14
        obtain rfl := Option.some.inj (gt_14.out.symm.trans zzt_14)
        clear zzt_14
        subst eAt_14
        have hct_14_0 : w.cell? ⟨bbt_14, oot_14 + k0 * 4, none⟩ = some (.int .i64 t_14_id) := hKt_14 0 _ rfl
        have hct_14_1 : w.cell? ⟨bbt_14, oot_14 + k0 * 4 + 1, none⟩ = some (.int .i64 t_14_year) := hKt_14 1 _ rfl
        have hct_14_2 : w.cell? ⟨bbt_14, oot_14 + k0 * 4 + 2, none⟩ = some (.string t_14_town) := hKt_14 2 _ rfl
        have hct_14_3 : w.cell? ⟨bbt_14, oot_14 + k0 * 4 + 3, none⟩ = some (.slice Art_14 t_14_traits.length crt_14) := hKt_14 3 _ rfl
        clear hKt_14
        have ltt_14 := cell_lt hct_14_0
        replace hct_14_0 := cell_below HBwr0.out hct_14_0
        replace hct_14_1 := cell_below HBwr0.out hct_14_1
        replace hct_14_2 := cell_below HBwr0.out hct_14_2
        replace hct_14_3 := cell_below HBwr0.out hct_14_3
        have Mrt_14 := Lib.hid hrt_14
        have Qrt_14 := Lib.hid hqt_14
        have Nrt_14 := Lib.hid hnt_14
        clear hrt_14 hqt_14 hnt_14
        have b0t_14 : (0 : Int) ≤ (k0 : Int) := by omega
        have b1t_14 : (k0 : Int) < ((a.length : Nat) : Int) := by omega
        have b2t_14 : ((k0 : Int)).toNat = k0 := by omega
        have Hhct_14_0 := Lib.hid hct_14_0
        replace hct_14_0 := cell_regrown hct_14_0
        have Hhct_14_1 := Lib.hid hct_14_1
        replace hct_14_1 := cell_regrown hct_14_1
        have Hhct_14_2 := Lib.hid hct_14_2
        replace hct_14_2 := cell_regrown hct_14_2
        have Hhct_14_3 := Lib.hid hct_14_3
        replace hct_14_3 := cell_regrown hct_14_3
        replace H := idx_hid H
        obtain ⟨nt_18, yt_18, et_18, lt_18, gt_18, H⟩ := H
        obtain rfl : k0 = nt_18 := by omega
        clear et_18
        obtain ⟨t_18_id, t_18_year, t_18_town, t_18_traits⟩ := yt_18
        replace H := unSighting_hid H
        obtain ⟨bbt_18, oot_18, zt_18, Art_18, crt_18, eAt_18, zzt_18, hKt_18, hrt_18, hqt_18, hnt_18⟩ := Go.Proofs.Ytpaakpbbahbhcaa.GoV.nest_at M1.out (k := k0) lt_18
        obtain rfl := Option.some.inj (gt_18.out.symm.trans zzt_18)
        clear zzt_18
        subst eAt_18
        have hct_18_0 : w.cell? ⟨bbt_18, oot_18 + k0 * 4, none⟩ = some (.int .i64 t_18_id) := hKt_18 0 _ rfl
        have hct_18_1 : w.cell? ⟨bbt_18, oot_18 + k0 * 4 + 1, none⟩ = some (.int .i64 t_18_year) := hKt_18 1 _ rfl
        have hct_18_2 : w.cell? ⟨bbt_18, oot_18 + k0 * 4 + 2, none⟩ = some (.string t_18_town) := hKt_18 2 _ rfl
        have hct_18_3 : w.cell? ⟨bbt_18, oot_18 + k0 * 4 + 3, none⟩ = some (.slice Art_18 t_18_traits.length crt_18) := hKt_18 3 _ rfl
        clear hKt_18
        have ltt_18 := cell_lt hct_18_0
        replace hct_18_0 := cell_below HBwr0.out hct_18_0
        replace hct_18_1 := cell_below HBwr0.out hct_18_1
        replace hct_18_2 := cell_below HBwr0.out hct_18_2
        replace hct_18_3 := cell_below HBwr0.out hct_18_3
        have Mrt_18 := Lib.hid hrt_18
        have Qrt_18 := Lib.hid hqt_18
        have Nrt_18 := Lib.hid hnt_18
        clear hrt_18 hqt_18 hnt_18
        have b0t_18 : (0 : Int) ≤ (k0 : Int) := by omega
        have b1t_18 : (k0 : Int) < ((b.length : Nat) : Int) := by omega
        have b2t_18 : ((k0 : Int)).toNat = k0 := by omega
        have Hhct_18_0 := Lib.hid hct_18_0
        replace hct_18_0 := cell_regrown hct_18_0
        have Hhct_18_1 := Lib.hid hct_18_1
        replace hct_18_1 := cell_regrown hct_18_1
        have Hhct_18_2 := Lib.hid hct_18_2
        replace hct_18_2 := cell_regrown hct_18_2
        have Hhct_18_3 := Lib.hid hct_18_3
        replace hct_18_3 := cell_regrown hct_18_3
        replace H := bind_hid H
        obtain ⟨t_20, qt_20, H⟩ := H
        have nt_20 : ∀ d os, Calls Try.prog 71 #[.agg #[.int .i64 t_14_id, .int .i64 t_14_year, .string t_14_town, .slice Art_14 t_14_traits.length crt_14], .agg #[.int .i64 t_18_id, .int .i64 t_18_year, .string t_18_town, .slice Art_18 t_18_traits.length crt_18]] (Go.Sort.grow (redrawn wr0 d) os) fun e w'' => e = .returned (.bool t_20) ∧ ∃ p : Regrown, w'' = Go.Sort.grow (redrawn wr0 p.d) p.os := fun d os => Calls.regrown_of (Go.Proofs.Ytpaakpbbahbhcaa.GlEqSighting.C (t_14_id) (t_14_year) (t_14_town) (t_14_traits) (t_18_id) (t_18_year) (t_18_town) (t_18_traits) Art_14 crt_14 Art_18 crt_18 _   (Lib.hid (Cells.below (Cells.below Mrt_14.out HBwr0.out) (below_regrown _ _ _))) Nrt_14 (Lib.hid (Cells.below (Cells.below Mrt_18.out HBwr0.out) (below_regrown _ _ _))) Nrt_18 qt_20)
        cases t_20 with
        | false =>
          replace H := let_hid H
          obtain ⟨t_21, ht_21, H⟩ := H
          obtain rfl : t_21 = true := ht_21.symm
          refine wp_region_quiet_below (by kernel_rfl) (by kernel_rfl) ?_
          repeat (go_big_quiet_step (first | (go_at_call 71; exact nt_20 _ _)))
          refine wpQuiet_nil ?_
          intro Y6 hY6
          replace hY6 := below_class hY6
          clear nt_20
          replace hct_14_0 := Hhct_14_0.out
          clear Hhct_14_0
          replace hct_14_1 := Hhct_14_1.out
          clear Hhct_14_1
          replace hct_14_2 := Hhct_14_2.out
          clear Hhct_14_2
          replace hct_14_3 := Hhct_14_3.out
          clear Hhct_14_3
          replace hct_18_0 := Hhct_18_0.out
          clear Hhct_18_0
          replace hct_18_1 := Hhct_18_1.out
          clear Hhct_18_1
          replace hct_18_2 := Hhct_18_2.out
          clear Hhct_18_2
          replace hct_18_3 := Hhct_18_3.out
          clear Hhct_18_3
          have HBY6 := Lib.hid (Below.step HBwr0.out hY6)
          replace hct_14_0 := cell_below hY6 hct_14_0
          replace hct_14_1 := cell_below hY6 hct_14_1
          replace hct_14_2 := cell_below hY6 hct_14_2
          replace hct_14_3 := cell_below hY6 hct_14_3
          replace hct_18_0 := cell_below hY6 hct_18_0
          replace hct_18_1 := cell_below hY6 hct_18_1
          replace hct_18_2 := cell_below hY6 hct_18_2
          replace hct_18_3 := cell_below hY6 hct_18_3
          clear hY6
          replace H := ite_t H
          obtain rfl := ret_hid H
          go_wp2_with fail
          go_ret
          exact ⟨rfl, HBY6.out⟩
        | true =>
          replace H := let_hid H
          obtain ⟨t_21, ht_21, H⟩ := H
          obtain rfl : t_21 = false := ht_21.symm
          refine wp_region_quiet_below (by kernel_rfl) (by kernel_rfl) ?_
          repeat (go_big_quiet_step (first | (go_at_call 71; exact nt_20 _ _)))
          refine wpQuiet_nil ?_
          intro Y6 hY6
          replace hY6 := below_class hY6
          clear nt_20
          replace hct_14_0 := Hhct_14_0.out
          clear Hhct_14_0
          replace hct_14_1 := Hhct_14_1.out
          clear Hhct_14_1
          replace hct_14_2 := Hhct_14_2.out
          clear Hhct_14_2
          replace hct_14_3 := Hhct_14_3.out
          clear Hhct_14_3
          replace hct_18_0 := Hhct_18_0.out
          clear Hhct_18_0
          replace hct_18_1 := Hhct_18_1.out
          clear Hhct_18_1
          replace hct_18_2 := Hhct_18_2.out
          clear Hhct_18_2
          replace hct_18_3 := Hhct_18_3.out
          clear Hhct_18_3
          have HBY6 := Lib.hid (Below.step HBwr0.out hY6)
          replace hct_14_0 := cell_below hY6 hct_14_0
          replace hct_14_1 := cell_below hY6 hct_14_1
          replace hct_14_2 := cell_below hY6 hct_14_2
          replace hct_14_3 := cell_below hY6 hct_14_3
          replace hct_18_0 := cell_below hY6 hct_18_0
          replace hct_18_1 := cell_below hY6 hct_18_1
          replace hct_18_2 := cell_below hY6 hct_18_2
          replace hct_18_3 := cell_below hY6 hct_18_3
          clear hY6
          replace H := ite_f H
          replace H := app_hid H
          go_wp2_with fail
          go_roundg m0
          case measure => omega
          case rel => exact ⟨k0 + 1, by omega, by go_num, H, HBY6⟩
  | true =>
    have nht_5 : ¬ (a.length = b.length) := by have := bne_iff_ne.1 ht_5; omega
    replace H := ite_t H
    obtain rfl := ret_hid H
    go_wp2_with fail
    go_ret
    exact ⟨rfl, HB.out⟩
end Go.Proofs.Ytpaakpbbahbhcaa.GlEqSightingS

/- Plain words on stamps: what a stamp is, when one is valid, when a list of them is; the cells of a list of records. No condition. -/
namespace Go.Proofs.Ytpaakpbbahbhcaa.PlainStamp
set_option linter.unusedVariables false

/-- a number lies in a..b -/
def inB (x a b : Int) : Bool := decide (a ≤ x ∧ x ≤ b)
theorem inB_of {x a b : Int} (h : inB x a b = true) : a ≤ x ∧ x ≤ b := by unfold inB at h; exact of_decide_eq_true h
structure St where
  id : Int
  face : Int
  color : Int
  year : Int
deriving DecidableEq

def St.cells (s : St) : List Value := [.int .i64 s.id, .int .i64 s.face, .int .i64 s.color, .int .i64 s.year]
def St.val (s : St) : Value := .agg #[.int .i64 s.id, .int .i64 s.face, .int .i64 s.color, .int .i64 s.year]
/-- each field fits an int -/
def St.fits (s : St) : Prop := (Lit.int .i64 s.id).wf = true ∧ (Lit.int .i64 s.face).wf = true ∧ (Lit.int .i64 s.color).wf = true ∧ (Lit.int .i64 s.year).wf = true

def okSt (s : St) : Bool := inB s.id 1 999 && inB s.face 0 9999 && inB s.color 0 99 && inB s.year 1840 2100
/-- the stamp at k is valid, and its id is above the one ahead of it -/
def okAt (l : List St) (k : Nat) : Bool :=
  match l[k]? with
  | none => true
  | some s => okSt s && (decide (k = 0) || (match l[k-1]? with | none => true | some r => decide (r.id < s.id)))
def okUp (l : List St) (k : Nat) : Bool := (List.range k).all (okAt l)
/-- a list of at most twelve valid stamps with rising ids -/
def okSts (l : List St) : Bool := decide (l.length ≤ 12) && okUp l l.length
/-- the cells of a list of stamps, one after the other -/
def flat (l : List St) : List Value := l.flatMap St.cells
theorem flat_nil : flat [] = [] := rfl
theorem flat_cons (s : St) (l : List St) : flat (s :: l) = s.cells ++ flat l := by simp [flat]
theorem flat_len (l : List St) : (flat l).length = l.length * 4 := by
  induction l with
  | nil => rfl
  | cons s l ih => rw [flat_cons, List.length_append, ih]; simp [St.cells]; omega
theorem flat_at : ∀ (l : List St) (k : Nat) (s : St), l[k]? = some s → ∀ j, j < 4 → (flat l)[k * 4 + j]? = s.cells[j]?
  | [], k, s, h, _, _ => by simp at h
  | r :: l, 0, s, h, j, hj => by
    obtain rfl : r = s := by simpa using h
    rw [flat_cons, List.getElem?_append_left (by simp [St.cells]; omega)]; simp
  | r :: l, k + 1, s, h, j, hj => by
    rw [flat_cons, List.getElem?_append_right (by simp [St.cells]; omega), show (k + 1) * 4 + j - r.cells.length = k * 4 + j by simp [St.cells]; omega]
    exact flat_at l k s (by simpa using h) j hj
end Go.Proofs.Ytpaakpbbahbhcaa.PlainStamp

/- Words for reckoning with plain functions; within and l1In. No condition. -/
namespace Go.Proofs.Ytpaakpbbahbhcaa.QBase
set_option linter.unusedVariables false
set_option linter.unusedSimpArgs false
open Go.RowKit
open Go.Proofs.Ytpaakpbbahbhcaa.GoP Go.Proofs.Ytpaakpbbahbhcaa.PlainStamp

theorem iteK_if {ρ : Type} (c : Bool) (a b : Option ρ) : iteK c a b = if c = true then a else b := by cases c <;> rfl
theorem bind2_some {α β ρ : Type} (a : α) (b : β) (f : α → β → Option ρ) : bind2 (some (a, b)) f = f a b := rfl
theorem guardK_pos {ρ : Type} {p : Prop} [Decidable p] {a : Option ρ} (h : p) : guardK p a = a := if_pos h
theorem within_eq (n a b : Int) : GiWithin.P n a b = some (inB n a b) := by
  simp only [GiWithin.P, letK, joinK, appK, iteK_if, inB]
  by_cases h1 : a ≤ n <;> by_cases h2 : n ≤ b <;> simp [h1, h2]
theorem l1In_eq (n a b : Int) : GsL1In.P n a b = some (inB n a b) := by
  simp only [GsL1In.P, letK, joinK, appK, iteK_if, inB]
  by_cases h1 : a ≤ n <;> by_cases h2 : n ≤ b <;> simp [h1, h2]
end Go.Proofs.Ytpaakpbbahbhcaa.QBase

/- Reckoning with the loops of plain functions; lists of valid records with rising ids. No condition. -/
namespace Go.Proofs.Ytpaakpbbahbhcaa.QLoop
set_option linter.unusedVariables false
open Go.RowKit
open Go.Proofs.Ytpaakpbbahbhcaa.GoP Go.Proofs.Ytpaakpbbahbhcaa.QBase

theorem cnt_ex {σ ρ : Type} {f : Nat → σ → (σ → Option ρ) → (σ → Option ρ) → Option ρ} {fin : σ → Option ρ} {Q : ρ → Prop} {n : Nat} (I : Nat → σ → Prop)
    (step : ∀ k s nx, k < n → I k s → (∀ s', I (k + 1) s' → ∃ r, nx s' = some r ∧ Q r) → ∃ r, f k s nx fin = some r ∧ Q r) (done : ∀ s, I n s → ∃ r, fin s = some r ∧ Q r) :
    ∀ m k s, k + m = n → I k s → ∃ r, cntK f m k s fin = some r ∧ Q r := by
  intro m
  induction m with
  | zero => intro k s hk hI; obtain rfl : k = n := by omega
            exact done s hI
  | succ m ih => intro k s hk hI; exact step k s _ (by omega) hI (fun s' h' => ih (k + 1) s' (by omega) h')
theorem cnt_is {σ ρ : Type} {f : Nat → σ → (σ → Option ρ) → (σ → Option ρ) → Option ρ} {fin : σ → Option ρ} {n : Nat} (r : ρ) (I : Nat → σ → Prop)
    (step : ∀ k s nx, k < n → I k s → (∀ s', I (k + 1) s' → nx s' = some r) → f k s nx fin = some r) (done : ∀ s, I n s → fin s = some r) (s : σ) (h0 : I 0 s) : cntK f n 0 s fin = some r := by
  obtain ⟨r', h, rfl⟩ := cnt_ex (Q := fun x => x = r) I (fun k s nx hk hI hn => ⟨r, step k s nx hk hI (fun s' h' => by obtain ⟨_, h, rfl⟩ := hn s' h'; exact h), rfl⟩) (fun s h => ⟨r, done s h, rfl⟩) n 0 s (by omega) h0
  exact h
theorem at_lt {α : Type} {l : List α} {k : Nat} (h : k < l.length) : ∃ x, l[k]? = some x ∧ idx l (k : Int) = some x := ⟨l[k], List.getElem?_eq_getElem h, by rw [idx_nat, List.getElem?_eq_getElem h]⟩
theorem idx_pred {α : Type} {l : List α} {k : Nat} {x : α} (hk : 0 < k) (hb : k ≤ 9223372036854775807) (h : l[k - 1]? = some x) : idx l (IntKind.i64.wrap ((k : Int) - 1)) = some x := by
  rw [IntWalk.i64_in _ (by omega), show ((k : Int) - 1) = ((k - 1 : Nat) : Int) by omega, idx_nat, h]
theorem take_next {α : Type} {l : List α} {k : Nat} {x : α} (h : l[k]? = some x) : l.take (k + 1) = l.take k ++ [x] := by
  obtain ⟨hk, e⟩ := List.getElem?_eq_some_iff.1 h
  rw [List.take_succ_eq_append_getElem hk, e]
theorem all_next {α : Type} {p : α → Bool} {l : List α} {k : Nat} {x : α} (h : l[k]? = some x) : (l.take (k + 1)).all p = ((l.take k).all p && p x) := by
  rw [take_next h]; simp
theorem not_all {α : Type} {p : α → Bool} {l : List α} {k : Nat} {x : α} (h : l[k]? = some x) (hp : p x = false) : l.all p = false := by
  rw [Bool.eq_false_iff]
  intro ha
  have := List.all_eq_true.1 ha x (List.mem_of_getElem? h)
  rw [hp] at this; exact absurd this (by simp)
theorem wrap_in {x : Int} (h1 : -9223372036854775808 ≤ x) (h2 : x ≤ 9223372036854775807) : IntKind.i64.wrap x = x := IntWalk.i64_in _ (by omega)

/-- valid, and above the one ahead of it -/
def upAt {α : Type} (ok : α → Bool) (id : α → Int) (l : List α) (k : Nat) : Bool :=
  match l[k]? with
  | none => true
  | some s => ok s && (decide (k = 0) || (match l[k-1]? with | none => true | some r => decide (id r < id s)))
def upTo {α : Type} (ok : α → Bool) (id : α → Int) (l : List α) (k : Nat) : Bool := (List.range k).all (upAt ok id l)
theorem upTo_zero {α : Type} (ok : α → Bool) (id : α → Int) (l : List α) : upTo ok id l 0 = true := rfl
theorem upTo_succ {α : Type} (ok : α → Bool) (id : α → Int) (l : List α) (k : Nat) : upTo ok id l (k + 1) = (upTo ok id l k && upAt ok id l k) := by simp [upTo, List.range_succ, List.all_append]
theorem upTo_not {α : Type} {ok : α → Bool} {id : α → Int} {l : List α} {k n : Nat} (h : upAt ok id l k = false) (hk : k < n) : upTo ok id l n = false := by
  unfold upTo
  rw [Bool.eq_false_iff]
  intro ha
  have := List.all_eq_true.1 ha k (List.mem_range.2 hk)
  rw [h] at this; exact absurd this (by simp)
/-- a list of at most m valid records with rising ids -/
def upL {α : Type} (m : Nat) (ok : α → Bool) (id : α → Int) (l : List α) : Bool := decide (l.length ≤ m) && upTo ok id l l.length
theorem upAt_bad {α : Type} {ok : α → Bool} {id : α → Int} {l : List α} {k : Nat} {s : α} (hs : l[k]? = some s) (h : ok s = false) : upAt ok id l k = false := by unfold upAt; rw [hs]; simp [h]
theorem upAt_first {α : Type} {ok : α → Bool} {id : α → Int} {l : List α} {s : α} (hs : l[0]? = some s) (h : ok s = true) : upAt ok id l 0 = true := by unfold upAt; rw [hs]; simp [h]
theorem upAt_next {α : Type} {ok : α → Bool} {id : α → Int} {l : List α} {k : Nat} {s r : α} (hs : l[k]? = some s) (hr : l[k-1]? = some r) (hk : 0 < k) (h : ok s = true) : upAt ok id l k = decide (id r < id s) := by
  unfold upAt; rw [hs]; simp only [hr, h, Bool.true_and, decide_eq_false (show ¬ k = 0 by omega), Bool.false_or]
theorem upL_len {α : Type} {m : Nat} {ok : α → Bool} {id : α → Int} {l : List α} (h : upL m ok id l = true) : l.length ≤ m := by unfold upL at h; simp only [Bool.and_eq_true, decide_eq_true_eq] at h; exact h.1
theorem upL_ok {α : Type} {m : Nat} {ok : α → Bool} {id : α → Int} {l : List α} (h : upL m ok id l = true) {k : Nat} {s : α} (hs : l[k]? = some s) : ok s = true := by
  unfold upL at h
  simp only [Bool.and_eq_true, decide_eq_true_eq] at h
  have := List.all_eq_true.1 h.2 k (List.mem_range.2 (List.getElem?_eq_some_iff.1 hs).1)
  unfold upAt at this
  rw [hs] at this
  simp only [Bool.and_eq_true] at this
  exact this.1
theorem upL_mem {α : Type} {m : Nat} {ok : α → Bool} {id : α → Int} {l : List α} (h : upL m ok id l = true) {s : α} (hs : s ∈ l) : ok s = true := by
  obtain ⟨k, hk⟩ := List.getElem?_of_mem hs
  exact upL_ok h hk
/-- a loop that goes through a list of records and stops with 'false' at the first that is bad -/
theorem up_loop {α : Type} {ok : α → Bool} {id : α → Int} {l : List α} {R : Type} {no : R} {f : Nat → Unit → (Unit → Option R) → (Unit → Option R) → Option R} {fin : Unit → Option R}
    (step : ∀ k nx s, l[k]? = some s → (ok s = false → f k () nx fin = some no) ∧ (ok s = true → (k = 0 → f k () nx fin = nx ()) ∧ (0 < k → ∀ r, l[k-1]? = some r → (id r < id s → f k () nx fin = nx ()) ∧ (id s ≤ id r → f k () nx fin = some no)))) :
    cntK f l.length 0 () fin = if upTo ok id l l.length then fin () else some no := by
  have key : ∀ m k, k + m = l.length → upTo ok id l k = true → cntK f m k () fin = if upTo ok id l l.length then fin () else some no := by
    intro m
    induction m with
    | zero => intro k hk hu; obtain rfl : k = l.length := by omega
              rw [hu]; rfl
    | succ m ih =>
      intro k hk hu
      have hlt : k < l.length := by omega
      obtain ⟨s, hs, _⟩ := at_lt hlt
      obtain ⟨h1, h2⟩ := step k (fun s' => cntK f m (k + 1) s' fin) s hs
      show f k () _ fin = _
      cases hok : ok s with
      | false => rw [h1 hok, upTo_not (upAt_bad hs hok) hlt]; rfl
      | true =>
        obtain ⟨h3, h4⟩ := h2 hok
        by_cases hk0 : k = 0
        · rw [h3 hk0]
          subst hk0
          exact ih 1 (by omega) (by rw [upTo_succ, hu, upAt_first hs hok]; rfl)
        · obtain ⟨r, hr, _⟩ := at_lt (l := l) (k := k - 1) (by omega)
          obtain ⟨h5, h6⟩ := h4 (by omega) r hr
          by_cases hlt2 : id r < id s
          · rw [h5 hlt2]
            exact ih (k + 1) (by omega) (by rw [upTo_succ, hu, upAt_next hs hr (by omega) hok]; simpa using hlt2)
          · rw [h6 (by omega), upTo_not (by rw [upAt_next hs hr (by omega) hok]; simpa using hlt2) hlt]; rfl
  exact key l.length 0 (by omega) (upTo_zero ok id l)
end Go.Proofs.Ytpaakpbbahbhcaa.QLoop

/- Loops that test each place, and loops without a count. No condition. -/
namespace Go.Proofs.Ytpaakpbbahbhcaa.QAll
set_option linter.unusedVariables false
set_option linter.unusedSimpArgs false
open Go.RowKit
open Go.Proofs.Ytpaakpbbahbhcaa.GoP Go.Proofs.Ytpaakpbbahbhcaa.QBase Go.Proofs.Ytpaakpbbahbhcaa.QLoop

/-- each number below n is good -/
def allN (n : Nat) (p : Nat → Bool) : Bool := (List.range n).all p
theorem lp_ex {σ ρ : Type} {f : σ → (σ → Option ρ) → (σ → Option ρ) → Option ρ} {fin : σ → Option ρ} {Q : ρ → Prop} {n : Nat} (I : Nat → σ → Prop)
    (step : ∀ k s nx, k < n → I k s → (∀ s', I (k + 1) s' → ∃ r, nx s' = some r ∧ Q r) → ∃ r, f s nx fin = some r ∧ Q r) (done : ∀ s nx, I n s → ∃ r, f s nx fin = some r ∧ Q r) :
    ∀ fuel k s, k ≤ n → n - k < fuel → I k s → ∃ r, loopK f fuel s fin = some r ∧ Q r := by
  intro fuel
  induction fuel with
  | zero => intro k s hk hf; omega
  | succ m ih =>
    intro k s hk hf hI
    show ∃ r, f s _ fin = some r ∧ Q r
    by_cases he : k = n
    · subst he; exact done s _ hI
    · exact step k s _ (by omega) hI (fun s' h' => ih (k + 1) s' (by omega) (by omega) h')
end Go.Proofs.Ytpaakpbbahbhcaa.QAll

/- Rising rows: what a rising row gives; loops that sum; loops from one on. No condition. -/
namespace Go.Proofs.Ytpaakpbbahbhcaa.QUp
set_option linter.unusedVariables false
set_option linter.unusedSimpArgs false
open Go.RowKit
open Go.Proofs.Ytpaakpbbahbhcaa.GoP Go.Proofs.Ytpaakpbbahbhcaa.QBase Go.Proofs.Ytpaakpbbahbhcaa.QLoop Go.Proofs.Ytpaakpbbahbhcaa.QAll

theorem upTo_at {α : Type} {ok : α → Bool} {id : α → Int} {l : List α} {n : Nat} (h : upTo ok id l n = true) {k : Nat} (hk : k < n) : upAt ok id l k = true := List.all_eq_true.1 h k (List.mem_range.2 hk)
theorem upTo_step {α : Type} {ok : α → Bool} {id : α → Int} {l : List α} {n : Nat} (h : upTo ok id l n = true) {k : Nat} (hk : k + 1 < n) {x y : α} (hx : l[k]? = some x) (hy : l[k + 1]? = some y) : id x < id y := by
  have := upTo_at h hk
  unfold upAt at this
  rw [hy] at this
  simp only [Nat.add_sub_cancel, hx, Bool.and_eq_true, Bool.or_eq_true, decide_eq_true_eq] at this
  rcases this.2 with h0 | h0
  · omega
  · exact h0
theorem upTo_lt {α : Type} {ok : α → Bool} {id : α → Int} {l : List α} {n : Nat} (h : upTo ok id l n = true) (hn : n ≤ l.length) {i : Nat} : ∀ d {x y : α}, i + d + 1 < n → l[i]? = some x → l[i + d + 1]? = some y → id x < id y := by
  intro d
  induction d with
  | zero => intro x y hk hx hy; exact upTo_step h hk hx hy
  | succ d ih =>
    intro x y hk hx hy
    obtain ⟨z, hz, _⟩ := at_lt (l := l) (k := i + d + 1) (by omega)
    have h1 := ih (by omega) hx hz
    have h2 := upTo_step (k := i + d + 1) h (by omega) hz (by rw [← hy]; rfl)
    omega
/-- rising numbers: the later one is greater -/
theorem up_less {α : Type} {ok : α → Bool} {id : α → Int} {l : List α} (h : upTo ok id l l.length = true) {i j : Nat} {x y : α} (hij : i < j) (hx : l[i]? = some x) (hy : l[j]? = some y) : id x < id y := by
  have hj := (List.getElem?_eq_some_iff.1 hy).1
  exact upTo_lt h (Nat.le_refl _) (j - i - 1) (by omega) hx (by rw [← hy]; congr 1; omega)
/-- a loop with fuel, from k on, by an invariant -/
theorem lp_is {σ ρ : Type} {f : σ → (σ → Option ρ) → (σ → Option ρ) → Option ρ} {fin : σ → Option ρ} {n : Nat} (r : ρ) (I : Nat → σ → Prop)
    (step : ∀ k s nx, k < n → I k s → (∀ s', I (k + 1) s' → nx s' = some r) → f s nx fin = some r) (done : ∀ s nx, I n s → f s nx fin = some r) (fuel : Nat) (k : Nat) (s : σ) (hk : k ≤ n) (hf : n - k < fuel) (hI : I k s) : loopK f fuel s fin = some r := by
  obtain ⟨r', h, rfl⟩ := lp_ex (Q := fun x => x = r) I (fun k s nx hk hI hn => ⟨r, step k s nx hk hI (fun s' h' => by obtain ⟨_, h, rfl⟩ := hn s' h'; exact h), rfl⟩) (fun s nx h => ⟨r, done s nx h, rfl⟩) fuel k s hk hf hI
  exact h
end Go.Proofs.Ytpaakpbbahbhcaa.QUp

/- Chapter 13: censuses: the plain functions of the program and of the reference agree, and the laws answer true. (Q1Rise) No condition but those of each theorem. -/
namespace Go.Proofs.Ytpaakpbbahbhcaa.Q1Rise
set_option linter.unusedVariables false
set_option linter.unusedSimpArgs false
open Go.RowKit
open Go.Proofs.Ytpaakpbbahbhcaa.GoP Go.Proofs.Ytpaakpbbahbhcaa.PlainStamp Go.Proofs.Ytpaakpbbahbhcaa.QBase Go.Proofs.Ytpaakpbbahbhcaa.QUp Go.Proofs.Ytpaakpbbahbhcaa.QLoop

def rise (lo hi : Int) (l : List Int) : Bool := upTo (fun n => inB n lo hi) (fun n => n) l l.length
theorem rising_eq (l : List Int) (lo hi : Int) (hl : l.length ≤ 9223372036854775807) : GsL1Rising.P l lo hi = some (rise lo hi l) := by
  simp only [GsL1Rising.P]
  rw [up_loop (ok := fun n => inB n lo hi) (id := fun n => n) (no := false)]
  · unfold rise; cases upTo (fun n => inB n lo hi) (fun n => n) l l.length <;> simp [GsL1Rising.e0]
  · intro k nx s hs
    have hi' : idx l (k : Int) = some s := by rw [idx_nat, hs]
    have hk : k < l.length := (List.getElem?_eq_some_iff.1 hs).1
    simp only [GsL1Rising.l0, hi', Option.bind_some, l1In_eq, letK, joinK, appK, iteK_if]
    refine ⟨fun h => by simp [h], fun h => ⟨fun h0 => by subst h0; simp [h], fun h0 r hr => ?_⟩⟩
    rw [idx_pred h0 (by omega) hr]
    have hk0 : (0 : Int) < (k : Int) := by omega
    have hk1 : ¬ k = 0 := by omega
    exact ⟨fun hlt => by (have hc : ¬ s ≤ r := by omega); simp [h, hk0, hk1, hc], fun hge => by simp [h, hk0, hk1, hge]⟩
end Go.Proofs.Ytpaakpbbahbhcaa.Q1Rise

/- Words: the tests of a word of the program and of the reference as plain functions. (QWord) No condition but those of each theorem. -/
namespace Go.Proofs.Ytpaakpbbahbhcaa.QWord
set_option linter.unusedVariables false
set_option linter.unusedSimpArgs false
open Go.RowKit
open Go.Proofs.Ytpaakpbbahbhcaa.GoP Go.Proofs.Ytpaakpbbahbhcaa.PlainStamp Go.Proofs.Ytpaakpbbahbhcaa.QBase Go.Proofs.Ytpaakpbbahbhcaa.QLoop

def small (b : UInt8) : Bool := decide (97 ≤ b.toNat ∧ b.toNat ≤ 122)
def wordB (s : ByteArray) : Bool := inB (s.size : Int) 1 10 && s.toList.all small
theorem size_list (s : ByteArray) : s.toList.length = s.size := by rw [Lib.toList_data]; rfl
theorem isLetter_eq (b : UInt8) : GiIsLetter.P (b.toNat : Int) = some (small b) := by
  simp only [GiIsLetter.P, letK, joinK, appK, iteK_if]
  unfold small
  by_cases h1 : 97 ≤ b.toNat
  · by_cases h2 : b.toNat ≤ 122
    · simp [h1, h2, show (97 : Int) ≤ b.toNat by omega, show (b.toNat : Int) ≤ 122 by omega]
    · simp [h1, h2, show (97 : Int) ≤ b.toNat by omega, show ¬ (b.toNat : Int) ≤ 122 by omega]
  · simp [h1, show ¬ (97 : Int) ≤ b.toNat by omega]
theorem isWord_eq (s : ByteArray) : GiIsWord.P s = some (wordB s) := by
  cases hb : inB (s.size : Int) 1 10 with
  | false => simp only [GiIsWord.P, within_eq, hb, Option.bind_some, letK, iteK_if, wordB]; rfl
  | true =>
    have h := inB_of hb
    simp only [GiIsWord.P, within_eq, hb, Option.bind_some, letK, iteK_if]
    rw [if_neg (by simp), guardK_pos (by omega)]
    refine cnt_is _ (fun k _ => (s.toList.take k).all small = true) ?_ ?_ () rfl
    · intro k u nx hk hI hn
      obtain ⟨y, hy, hi⟩ := at_lt (l := s.toList) (k := k) (by rw [size_list]; exact hk)
      simp only [GiIsWord.l0, hi, Option.bind_some, letK, joinK, appK, iteK_if, isLetter_eq]
      cases hs : small y with
      | false =>
        have : wordB s = false := by unfold wordB; rw [not_all hy hs, Bool.and_false]
        simp [this]
      | true => exact hn () (by rw [all_next hy, hI, hs]; rfl)
    · intro u hI
      rw [List.take_of_length_le (by rw [size_list]; exact Nat.le_refl _)] at hI
      simp [GiIsWord.e0, wordB, hb, hI]
theorem l2Word_eq (s : ByteArray) (hz : s.size ≤ 9223372036854775807) : GsL2Word.P s = some (wordB s) := by
  simp only [GsL2Word.P]
  rw [guardK_pos hz]
  refine cnt_is _ (fun k _ => (s.toList.take k).all small = true) ?_ ?_ () rfl
  · intro k u nx hk hI hn
    obtain ⟨y, hy, hi⟩ := at_lt (l := s.toList) (k := k) (by rw [size_list]; exact hk)
    simp only [GsL2Word.l0, hi, Option.bind_some, letK, joinK, appK, iteK_if]
    by_cases h1 : (y.toNat : Int) < 97
    · have : wordB s = false := by unfold wordB; rw [not_all hy (by unfold small; simp; omega), Bool.and_false]
      simp [h1, this]
    · by_cases h2 : (122 : Int) < (y.toNat : Int)
      · have : wordB s = false := by unfold wordB; rw [not_all hy (by unfold small; simp; omega), Bool.and_false]
        simp [h1, h2, this]
      · simp [h1, h2]
        exact hn () (by rw [all_next hy, hI]; unfold small; simp; omega)
  · intro u hI
    rw [List.take_of_length_le (by rw [size_list]; exact Nat.le_refl _)] at hI
    simp [GsL2Word.e0, wordB, l1In_eq, hI]
end Go.Proofs.Ytpaakpbbahbhcaa.QWord

/- Chapter 13: censuses: the plain functions of the program and of the reference agree, and the laws answer true. (Q13One) No condition but those of each theorem. -/
namespace Go.Proofs.Ytpaakpbbahbhcaa.Q13One
set_option linter.unusedVariables false
set_option linter.unusedSimpArgs false
open Go.RowKit
open Go.Proofs.Ytpaakpbbahbhcaa.GoP Go.Proofs.Ytpaakpbbahbhcaa.PlainStamp Go.Proofs.Ytpaakpbbahbhcaa.QBase Go.Proofs.Ytpaakpbbahbhcaa.Q1Rise Go.Proofs.Ytpaakpbbahbhcaa.QUp Go.Proofs.Ytpaakpbbahbhcaa.QLoop Go.Proofs.Ytpaakpbbahbhcaa.QWord Go.Proofs.Ytpaakpbbahbhcaa.PSighting

/-- what a machine can hold -/
def sz13 (s : Sighting) : Prop := s.town.size ≤ 9223372036854775807 ∧ s.traits.length ≤ 9223372036854775807
def trB (l : List Int) : Bool := decide (l.length ≤ 8) && rise 1 50 l
theorem isTrait_eq (n : Int) : GiIsTrait.P n = some (inB n 1 50) := by simp only [GiIsTrait.P, within_eq, Option.bind_some]
theorem areTraits_eq (l : List Int) : GiAreTraits.P l = some (trB l) := by
  simp only [GiAreTraits.P, GiAreByKeyIntIntiIsTraitiAreTraits1.P, letK, iteK_if]
  by_cases hl : l.length ≤ 8
  · rw [if_neg (by simp; omega), up_loop (ok := fun n => inB n 1 50) (id := fun n => n) (no := false)]
    · unfold trB rise; cases upTo (fun n => inB n 1 50) (fun n => n) l l.length <;> simp [hl, GiAreByKeyIntIntiIsTraitiAreTraits1.e0]
    · intro k nx s hs
      have hi : idx l (k : Int) = some s := by rw [idx_nat, hs]
      have hk : k < l.length := (List.getElem?_eq_some_iff.1 hs).1
      simp only [GiAreByKeyIntIntiIsTraitiAreTraits1.l0, hi, Option.bind_some, isTrait_eq, GiAreTraits1.P, letK, joinK, appK, iteK_if]
      refine ⟨fun h => by simp [h], fun h => ⟨fun h0 => by subst h0; simp [h], fun h0 r hr => ?_⟩⟩
      rw [idx_pred h0 (by omega) hr]
      have hk0 : (0 : Int) < (k : Int) := by omega
      have hk1 : ¬ k = 0 := by omega
      exact ⟨fun hlt => by (have hc : ¬ s ≤ r := by omega); simp [h, hk0, hk1, hc], fun hge => by simp [h, hk0, hk1, hge]⟩
  · rw [if_pos (by simp; omega)]; unfold trB; simp [hl]
def okSi (x : Sighting) : Bool := inB x.id 1 999 && inB x.year 1840 2100 && wordB x.town && trB x.traits
theorem isSighting_eq (a b : Int) (c : ByteArray) (d : List Int) : GiIsSighting.P a b c d = some (okSi ⟨a, b, c, d⟩) := by
  simp only [GiIsSighting.P, within_eq, isWord_eq, areTraits_eq, Option.bind_some, letK, joinK, appK, iteK_if, okSi]
  cases inB a 1 999 <;> cases inB b 1840 2100 <;> cases wordB c <;> cases trB d <;> simp
theorem l13One_eq (a b : Int) (c : ByteArray) (d : List Int) (h : sz13 ⟨a, b, c, d⟩) : GsL13One.P a b c d = some (okSi ⟨a, b, c, d⟩) := by
  have h8 : decide ((d.length : Int) ≤ 8) = decide (d.length ≤ 8) := by rw [decide_eq_decide]; omega
  simp only [GsL13One.P, l1In_eq, l2Word_eq c h.1, rising_eq d 1 50 h.2, h8, Option.bind_some, letK, joinK, appK, iteK_if, okSi, trB]
  cases inB a 1 999 <;> cases inB b 1840 2100 <;> cases wordB c <;> cases decide (d.length ≤ 8) <;> cases rise 1 50 d <;> simp
theorem okSi_of {x : Sighting} (h : okSi x = true) : (1 ≤ x.id ∧ x.id ≤ 999) ∧ (1840 ≤ x.year ∧ x.year ≤ 2100) ∧ wordB x.town = true ∧ x.traits.length ≤ 8 ∧ rise 1 50 x.traits = true := by
  unfold okSi trB at h
  simp only [Bool.and_eq_true, decide_eq_true_eq] at h
  exact ⟨inB_of h.1.1.1, inB_of h.1.1.2, h.1.2, h.2.1, h.2.2⟩
end Go.Proofs.Ytpaakpbbahbhcaa.Q13One

/- Chapter 13: censuses: the plain functions of the program and of the reference agree, and the laws answer true. (Q13List) No condition but those of each theorem. -/
namespace Go.Proofs.Ytpaakpbbahbhcaa.Q13List
set_option linter.unusedVariables false
set_option linter.unusedSimpArgs false
open Go.RowKit
open Go.Proofs.Ytpaakpbbahbhcaa.GoP Go.Proofs.Ytpaakpbbahbhcaa.PlainStamp Go.Proofs.Ytpaakpbbahbhcaa.QBase Go.Proofs.Ytpaakpbbahbhcaa.Q13One Go.Proofs.Ytpaakpbbahbhcaa.QUp Go.Proofs.Ytpaakpbbahbhcaa.QLoop Go.Proofs.Ytpaakpbbahbhcaa.PSighting

def okSis (l : List Sighting) : Bool := upL 10 okSi Sighting.id l
theorem areSightings_eq (l : List Sighting) : GiAreSightings.P l = some (okSis l) := by
  simp only [GiAreSightings.P, GiAreByKeySightingIntiIsSightingiIdOfSighting.P, letK, iteK_if]
  by_cases hl : l.length ≤ 10
  · rw [if_neg (by simp; omega), up_loop (ok := okSi) (id := Sighting.id) (no := false)]
    · unfold okSis upL; cases upTo okSi Sighting.id l l.length <;> simp [hl, GiAreByKeySightingIntiIsSightingiIdOfSighting.e0]
    · intro k nx s hs
      have hi : idx l (k : Int) = some s := by rw [idx_nat, hs]
      have hk : k < l.length := (List.getElem?_eq_some_iff.1 hs).1
      simp only [GiAreByKeySightingIntiIsSightingiIdOfSighting.l0, hi, Option.bind_some, unSighting, GiIdOfSighting.P, isSighting_eq, letK, joinK, appK, iteK_if]
      refine ⟨fun h => by simp [h], fun h => ⟨fun h0 => by subst h0; simp [h], fun h0 r hr => ?_⟩⟩
      rw [idx_pred h0 (by omega) hr]
      have hk0 : (0 : Int) < (k : Int) := by omega
      have hk1 : ¬ k = 0 := by omega
      exact ⟨fun hlt => by (have hc : ¬ s.id ≤ r.id := by omega); simp [h, hk0, hk1, hc], fun hge => by simp [h, hk0, hk1, hge]⟩
  · rw [if_pos (by simp; omega)]; unfold okSis upL; simp [hl]
theorem l13Good_eq (l : List Sighting) (hf : ∀ s ∈ l, sz13 s) (hl : l.length ≤ 9223372036854775807) : GsL13Good.P l = some (okSis l) := by
  simp only [GsL13Good.P]
  rw [up_loop (ok := okSi) (id := Sighting.id) (no := false)]
  · unfold okSis upL; cases upTo okSi Sighting.id l l.length <;> simp [GsL13Good.e0, letK]; omega
  · intro k nx s hs
    have hi : idx l (k : Int) = some s := by rw [idx_nat, hs]
    have hk : k < l.length := (List.getElem?_eq_some_iff.1 hs).1
    have hm := l13One_eq s.id s.year s.town s.traits (hf s (List.mem_of_getElem? hs))
    simp only [GsL13Good.l0, hi, Option.bind_some, unSighting, hm, letK, joinK, appK, iteK_if]
    refine ⟨fun h => by simp [h], fun h => ⟨fun h0 => by subst h0; simp [h], fun h0 r hr => ?_⟩⟩
    rw [idx_pred h0 (by omega) hr]
    have hk0 : (0 : Int) < (k : Int) := by omega
    have hk1 : ¬ k = 0 := by omega
    exact ⟨fun hlt => by (have hc : ¬ s.id ≤ r.id := by omega); simp [h, hk0, hk1, hc], fun hge => by simp [h, hk0, hk1, hge]⟩
theorem okSis_at {l : List Sighting} (h : okSis l = true) {x : Sighting} (hx : x ∈ l) : okSi x = true := upL_mem h hx
theorem okSis_len {l : List Sighting} (h : okSis l = true) : l.length ≤ 10 := upL_len h
theorem okSis_id {l : List Sighting} (h : okSis l = true) {i j : Nat} {x y : Sighting} (hij : i < j) (hx : l[i]? = some x) (hy : l[j]? = some y) : x.id < y.id := by
  unfold okSis upL at h
  simp only [Bool.and_eq_true, decide_eq_true_eq] at h
  exact up_less h.2 hij hx hy
theorem okSis_inj {l : List Sighting} (h : okSis l = true) {i j : Nat} {x y : Sighting} (hx : l[i]? = some x) (hy : l[j]? = some y) (e : x.id = y.id) : i = j := by
  rcases Nat.lt_trichotomy i j with h1 | h1 | h1
  · have := okSis_id h h1 hx hy; omega
  · exact h1
  · have := okSis_id h h1 hy hx; omega
end Go.Proofs.Ytpaakpbbahbhcaa.Q13List

