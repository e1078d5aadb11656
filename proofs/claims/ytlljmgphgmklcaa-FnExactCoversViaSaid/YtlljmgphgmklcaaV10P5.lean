/- Texts on which the proofs of several laws stand, one behind the other (5 of 13). No condition of their own. -/
import Derived.Test.YtlljmgphgmklcaaChecked
import Derived.Test.YtlljmgphgmklcaaV10P1
import Derived.Test.YtlljmgphgmklcaaV10P4
import Derived.WalkKit
import Derived.WalkSpells
import Derived.WalkLawsBesides
import Derived.BigQuiet
import Derived.OwnWalk
import Derived.Deep.LoopGhost
import Derived.Deep.QuietTactic
import Derived.IntWalk
import Derived.Lib.QuietBelow
import Derived.Test.YtlljmgphgmklcaaV10P2
import Derived.ScopeJumps
/- loop.example/g01062/impl.IsTimetable as a plain function, and the contract of the program's: where the plain one has an answer, the program has it. Conditions: slices read as lists. -/
namespace Go.Proofs.Ytlljmgphgmklcaa.GiIsTimetable
set_option linter.unusedVariables false
set_option linter.unusedSimpArgs false
open Go.RowKit
open Go.Proofs.Ytlljmgphgmklcaa.Rowed Go.Proofs.Ytlljmgphgmklcaa.Turn Go.Proofs.Ytlljmgphgmklcaa.Aid Go.Proofs.Ytlljmgphgmklcaa.GoP Go.Proofs.Ytlljmgphgmklcaa.GoM

def l0 (list : (List Go.Proofs.Ytlljmgphgmklcaa.PMail.Mail)) (k0 : Nat) (s : Unit) (nx0 bk0 : Unit → Option (Bool)) : Option (Bool) :=
  
  Option.bind (idx list (k0 : Int)) fun (yt_10 : Go.Proofs.Ytlljmgphgmklcaa.PMail.Mail) =>
  unMail yt_10 fun (t_10_leave : Int) (t_10_from_ : Int) (t_10_to_ : Int) (t_10_arrive : Int) =>
  Option.bind (Go.Proofs.Ytlljmgphgmklcaa.GiIsMail.P (Go.Proofs.Ytlljmgphgmklcaa.PMail.Mail.mk t_10_leave t_10_from_ t_10_to_ t_10_arrive)) fun (t_16 : Bool) =>
  letK (!t_16) fun (t_17 : Bool) =>
  joinK (fun (t_31 : Bool) =>
  iteK t_31
  (some false)
  (appK nx0 ())) fun jt_31 => iteK t_17 (appK jt_31 true) (letK (decide (0 < (k0 : Int))) fun (t_20 : Bool) =>
  joinK (fun (t_30 : Bool) =>
  appK jt_31 t_30) fun jt_30 => iteK t_20 (letK (IntKind.i64.wrap ((k0 : Int) - 1)) fun (t_24 : Int) =>
  Option.bind (idx list t_24) fun (yt_25 : Go.Proofs.Ytlljmgphgmklcaa.PMail.Mail) =>
  unMail yt_25 fun (t_25_leave : Int) (t_25_from_ : Int) (t_25_to_ : Int) (t_25_arrive : Int) =>
  Option.bind (Go.Proofs.Ytlljmgphgmklcaa.GiCompareMails.P (Go.Proofs.Ytlljmgphgmklcaa.PMail.Mail.mk t_25_leave t_25_from_ t_25_to_ t_25_arrive) (Go.Proofs.Ytlljmgphgmklcaa.PMail.Mail.mk t_10_leave t_10_from_ t_10_to_ t_10_arrive)) fun (t_28 : Int) =>
  letK (decide (0 ≤ t_28)) fun (t_29 : Bool) =>
  appK jt_30 t_29) (appK jt_30 false))

def e0  (s : Unit) : Option (Bool) :=
  
  some true

def P (list : (List Go.Proofs.Ytlljmgphgmklcaa.PMail.Mail)) : Option (Bool) :=
  letK (decide (20 < (list.length : Int))) fun (t_3 : Bool) =>
  iteK t_3
  (some false)
  (cntK (l0 list) (list.length) 0 () (e0 ))

set_option maxRecDepth 100000 in
set_option maxHeartbeats 2000000 in
theorem C (list : (List Go.Proofs.Ytlljmgphgmklcaa.PMail.Mail)) (A0 : Option Addr) (c0 : Nat)  (w : World) (M0 : Hid (Cells w 4 A0 list.length (Go.Proofs.Ytlljmgphgmklcaa.PMail.flat list))) (N0 : Hid (list.length ≤ 9223372036854775807))  {r : Bool} (H : Hid (P list = some r)) :
    Calls Try.prog 104 #[.slice A0 list.length c0] w (Gives (.bool r) w) := by
  have HB := Lib.hid (Below.refl w.heap.size w)
  unfold P at H
  have N0o := N0.out
  go_enter Try.func104, Try.ntmps104
  replace H := let_hid H
  obtain ⟨t_3, ht_3, H⟩ := H
  cases t_3 with
  | false =>
    have nht_3 : ¬ (20 < list.length) := by have := of_decide_eq_false ht_3; omega
    replace H := ite_f H
    go_wp2_with fail
    go_loopg [10] (list.length) (fun m_ v10_ wr => ∃ (k0 : Nat) , k0 + m_ = list.length ∧ v10_ = .int .i64 (k0 : Int) ∧ Hid (cntK (l0 list) m_ k0 () (e0 ) = some r) ∧ Hid (Below w.heap.size w wr))
    case atStart => exact ⟨0, by omega, rfl, H, HB⟩
    case round =>
      obtain ⟨k0, hkm0, rfl, H, HBwr0⟩ := hrel
      rename World => wr0
      cases gk with
      | zero =>
        obtain rfl : k0 = list.length := by omega
        have hc0 : decide (((list.length : Nat) : Int) < ((list.length : Nat) : Int)) = false := by simp
        replace H := cnt_zero H
        unfold e0 at H
        obtain rfl := ret_hid H
        go_wp2_with fail
        go_ret
        exact ⟨rfl, HBwr0.out⟩
      | succ m0 =>
        have hlt0 : k0 < list.length := by omega
        have hc0 : decide ((k0 : Int) < ((list.length : Nat) : Int)) = true := by simp; omega
        replace H := cnt_succ H
        unfold l0 at H
        replace H := idx_hid H
        obtain ⟨nt_10, yt_10, et_10, lt_10, gt_10, H⟩ := H
        obtain rfl : k0 = nt_10 := by omega
        clear et_10
        obtain ⟨t_10_leave, t_10_from_, t_10_to_, t_10_arrive⟩ := yt_10
        replace H := unMail_hid H
        obtain ⟨ab_t_10, ao_t_10, zt_10, At_10, z_t_10, ct_10_0, ct_10_1, ct_10_2, ct_10_3⟩ := Go.Proofs.Ytlljmgphgmklcaa.OMail.at_ M0.out lt_10
        obtain rfl := Option.some.inj (gt_10.out.symm.trans z_t_10)
        subst At_10
        have ltt_10 := cell_lt ct_10_0
        replace ct_10_0 := cell_below HBwr0.out ct_10_0
        replace ct_10_1 := cell_below HBwr0.out ct_10_1
        replace ct_10_2 := cell_below HBwr0.out ct_10_2
        replace ct_10_3 := cell_below HBwr0.out ct_10_3
        clear z_t_10
        have b0t_10 : (0 : Int) ≤ (k0 : Int) := by omega
        have b1t_10 : (k0 : Int) < ((list.length : Nat) : Int) := by omega
        have b2t_10 : ((k0 : Int)).toNat = k0 := by omega
        obtain ⟨w_x_12, hw_x_12⟩ : ∃ x, wr0.alloc (.cells #[.int .i64 t_10_leave, .int .i64 t_10_from_, .int .i64 t_10_to_, .int .i64 t_10_arrive] 108) = x := ⟨_, rfl⟩
        have bw_x_12 : Below wr0.heap.size wr0 w_x_12 := by rw [← hw_x_12]; exact (Below.refl _ _).alloc (Nat.le_refl _) _
        have HBw_x_12 := Lib.hid (Below.step HBwr0.out bw_x_12)
        have ct_10_0__13 := cell_below bw_x_12 ct_10_0
        have ct_10_1__14 := cell_below bw_x_12 ct_10_1
        have ct_10_2__15 := cell_below bw_x_12 ct_10_2
        have ct_10_3__16 := cell_below bw_x_12 ct_10_3
        clear bw_x_12
        have kx_12_0 : w_x_12.cell? ⟨wr0.heap.size, 0, none⟩ = some (.int .i64 t_10_leave) := by rw [← hw_x_12]; exact box_new _ _ _ 0 _ rfl
        have kx_12_1 : w_x_12.cell? ⟨wr0.heap.size, 1, none⟩ = some (.int .i64 t_10_from_) := by rw [← hw_x_12]; exact box_new _ _ _ 1 _ rfl
        have kx_12_2 : w_x_12.cell? ⟨wr0.heap.size, 2, none⟩ = some (.int .i64 t_10_to_) := by rw [← hw_x_12]; exact box_new _ _ _ 2 _ rfl
        have kx_12_3 : w_x_12.cell? ⟨wr0.heap.size, 3, none⟩ = some (.int .i64 t_10_arrive) := by rw [← hw_x_12]; exact box_new _ _ _ 3 _ rfl
        go_wp2_with fail
        clear ct_10_0 ct_10_1 ct_10_2 ct_10_3
        have Hct_10_0__13 := Lib.hid ct_10_0__13
        replace ct_10_0__13 := cell_regrown ct_10_0__13
        have Hct_10_1__14 := Lib.hid ct_10_1__14
        replace ct_10_1__14 := cell_regrown ct_10_1__14
        have Hct_10_2__15 := Lib.hid ct_10_2__15
        replace ct_10_2__15 := cell_regrown ct_10_2__15
        have Hct_10_3__16 := Lib.hid ct_10_3__16
        replace ct_10_3__16 := cell_regrown ct_10_3__16
        have Hkx_12_0 := Lib.hid kx_12_0
        replace kx_12_0 := cell_regrown kx_12_0
        have Hkx_12_1 := Lib.hid kx_12_1
        replace kx_12_1 := cell_regrown kx_12_1
        have Hkx_12_2 := Lib.hid kx_12_2
        replace kx_12_2 := cell_regrown kx_12_2
        have Hkx_12_3 := Lib.hid kx_12_3
        replace kx_12_3 := cell_regrown kx_12_3
        replace H := bind_hid H
        obtain ⟨t_16, qt_16, H⟩ := H
        have nt_16 : ∀ d os, Calls Try.prog 148 #[.agg #[.int .i64 t_10_leave, .int .i64 t_10_from_, .int .i64 t_10_to_, .int .i64 t_10_arrive]] (Go.Sort.grow (redrawn w_x_12 d) os) fun e w'' => e = .returned (.bool t_16) ∧ ∃ p : Regrown, w'' = Go.Sort.grow (redrawn w_x_12 p.d) p.os := fun d os => Calls.regrown_of (Go.Proofs.Ytlljmgphgmklcaa.GiIsMail.C ((Go.Proofs.Ytlljmgphgmklcaa.PMail.Mail.mk t_10_leave t_10_from_ t_10_to_ t_10_arrive))  _    qt_16)
        cases t_16 with
        | false =>
          replace H := let_hid H
          obtain ⟨t_17, ht_17, H⟩ := H
          obtain rfl : t_17 = true := ht_17.symm
          replace H := join_hid H
          replace H := ite_t H
          replace H := app_hid H
          refine wp_region_quiet_below (by kernel_rfl) (by kernel_rfl) ?_
          repeat (go_big_quiet_step (first | (go_at_call 148; exact nt_16 _ _)))
          refine wpQuiet_nil ?_
          intro Y6 hY6
          replace hY6 := below_class hY6
          clear nt_16
          replace ct_10_0__13 := Hct_10_0__13.out
          clear Hct_10_0__13
          replace ct_10_1__14 := Hct_10_1__14.out
          clear Hct_10_1__14
          replace ct_10_2__15 := Hct_10_2__15.out
          clear Hct_10_2__15
          replace ct_10_3__16 := Hct_10_3__16.out
          clear Hct_10_3__16
          replace kx_12_0 := Hkx_12_0.out
          clear Hkx_12_0
          replace kx_12_1 := Hkx_12_1.out
          clear Hkx_12_1
          replace kx_12_2 := Hkx_12_2.out
          clear Hkx_12_2
          replace kx_12_3 := Hkx_12_3.out
          clear Hkx_12_3
          have HBY6 := Lib.hid (Below.step HBw_x_12.out hY6)
          replace ct_10_0__13 := cell_below hY6 ct_10_0__13
          replace ct_10_1__14 := cell_below hY6 ct_10_1__14
          replace ct_10_2__15 := cell_below hY6 ct_10_2__15
          replace ct_10_3__16 := cell_below hY6 ct_10_3__16
          replace kx_12_0 := cell_below hY6 kx_12_0
          replace kx_12_1 := cell_below hY6 kx_12_1
          replace kx_12_2 := cell_below hY6 kx_12_2
          replace kx_12_3 := cell_below hY6 kx_12_3
          clear hY6
          replace H := ite_t H
          obtain rfl := ret_hid H
          go_wp2_with fail
          go_ret
          exact ⟨rfl, HBY6.out⟩
        | true =>
          replace H := let_hid H
          obtain ⟨t_17, ht_17, H⟩ := H
          obtain rfl : t_17 = false := ht_17.symm
          replace H := join_hid H
          replace H := ite_f H
          replace H := let_hid H
          obtain ⟨t_20, ht_20, H⟩ := H
          replace H := join_hid H
          cases t_20 with
          | false =>
            have nht_20 : ¬ (0 < k0) := by have := of_decide_eq_false ht_20; omega
            replace H := ite_f H
            replace H := app_hid H
            replace H := app_hid H
            refine wp_region_quiet_below (by kernel_rfl) (by kernel_rfl) ?_
            repeat (go_big_quiet_step (first | (go_at_call 148; exact nt_16 _ _)))
            refine wpQuiet_nil ?_
            intro Y6 hY6
            replace hY6 := below_class hY6
            clear nt_16
            replace ct_10_0__13 := Hct_10_0__13.out
            clear Hct_10_0__13
            replace ct_10_1__14 := Hct_10_1__14.out
            clear Hct_10_1__14
            replace ct_10_2__15 := Hct_10_2__15.out
            clear Hct_10_2__15
            replace ct_10_3__16 := Hct_10_3__16.out
            clear Hct_10_3__16
            replace kx_12_0 := Hkx_12_0.out
            clear Hkx_12_0
            replace kx_12_1 := Hkx_12_1.out
            clear Hkx_12_1
            replace kx_12_2 := Hkx_12_2.out
            clear Hkx_12_2
            replace kx_12_3 := Hkx_12_3.out
            clear Hkx_12_3
            have HBY6 := Lib.hid (Below.step HBw_x_12.out hY6)
            replace ct_10_0__13 := cell_below hY6 ct_10_0__13
            replace ct_10_1__14 := cell_below hY6 ct_10_1__14
            replace ct_10_2__15 := cell_below hY6 ct_10_2__15
            replace ct_10_3__16 := cell_below hY6 ct_10_3__16
            replace kx_12_0 := cell_below hY6 kx_12_0
            replace kx_12_1 := cell_below hY6 kx_12_1
            replace kx_12_2 := cell_below hY6 kx_12_2
            replace kx_12_3 := cell_below hY6 kx_12_3
            clear hY6
            replace H := ite_f H
            replace H := app_hid H
            go_wp2_with fail
            go_roundg m0
            case measure => omega
            case rel => exact ⟨k0 + 1, by omega, by go_num, H, HBY6⟩
          | true =>
            have nht_20 : 0 < k0 := by have := of_decide_eq_true ht_20; omega
            replace H := ite_t H
            replace H := let_hid H
            obtain ⟨t_24, ht_24, H⟩ := H
            replace H := idx_hid H
            obtain ⟨nt_25, yt_25, et_25, lt_25, gt_25, H⟩ := H
            subst et_25
            obtain ⟨t_25_leave, t_25_from_, t_25_to_, t_25_arrive⟩ := yt_25
            replace H := unMail_hid H
            obtain ⟨ab_t_25, ao_t_25, zt_25, At_25, z_t_25, ct_25_0, ct_25_1, ct_25_2, ct_25_3⟩ := Go.Proofs.Ytlljmgphgmklcaa.OMail.at_ M0.out lt_25
            obtain rfl := Option.some.inj (gt_25.out.symm.trans z_t_25)
            simp only [Option.some.injEq, Addr.mk.injEq] at At_25
            obtain ⟨rfl, rfl, _⟩ := At_25
            have ltt_25 := cell_lt ct_25_0
            replace ct_25_0 := cell_below HBw_x_12.out ct_25_0
            replace ct_25_1 := cell_below HBw_x_12.out ct_25_1
            replace ct_25_2 := cell_below HBw_x_12.out ct_25_2
            replace ct_25_3 := cell_below HBw_x_12.out ct_25_3
            clear z_t_25
            have b0t_25 : (0 : Int) ≤ (nt_25 : Int) := by omega
            have b1t_25 : (nt_25 : Int) < ((list.length : Nat) : Int) := by omega
            have b2t_25 : ((nt_25 : Int)).toNat = nt_25 := by omega
            have Hct_25_0 := Lib.hid ct_25_0
            replace ct_25_0 := cell_regrown ct_25_0
            have Hct_25_1 := Lib.hid ct_25_1
            replace ct_25_1 := cell_regrown ct_25_1
            have Hct_25_2 := Lib.hid ct_25_2
            replace ct_25_2 := cell_regrown ct_25_2
            have Hct_25_3 := Lib.hid ct_25_3
            replace ct_25_3 := cell_regrown ct_25_3
            replace H := bind_hid H
            obtain ⟨t_28, qt_28, H⟩ := H
            have nt_28 : ∀ d os, Calls Try.prog 149 #[.agg #[.int .i64 t_25_leave, .int .i64 t_25_from_, .int .i64 t_25_to_, .int .i64 t_25_arrive], .agg #[.int .i64 t_10_leave, .int .i64 t_10_from_, .int .i64 t_10_to_, .int .i64 t_10_arrive]] (Go.Sort.grow (redrawn w_x_12 d) os) fun e w'' => e = .returned (.int .i64 t_28) ∧ ∃ p : Regrown, w'' = Go.Sort.grow (redrawn w_x_12 p.d) p.os := fun d os => Calls.regrown_of (Go.Proofs.Ytlljmgphgmklcaa.GiCompareMails.C ((Go.Proofs.Ytlljmgphgmklcaa.PMail.Mail.mk t_25_leave t_25_from_ t_25_to_ t_25_arrive)) ((Go.Proofs.Ytlljmgphgmklcaa.PMail.Mail.mk t_10_leave t_10_from_ t_10_to_ t_10_arrive))  _    qt_28)
            replace H := let_hid H
            obtain ⟨t_29, ht_29, H⟩ := H
            replace H := app_hid H
            replace H := app_hid H
            refine wp_region_quiet_below (by kernel_rfl) (by kernel_rfl) ?_
            repeat (go_big_quiet_step (first | (go_at_call 148; exact nt_16 _ _) | (go_at_call 149; exact nt_28 _ _)))
            refine wpQuiet_nil ?_
            intro Y6 hY6
            replace hY6 := below_class hY6
            clear nt_16 nt_28
            replace ct_10_0__13 := Hct_10_0__13.out
            clear Hct_10_0__13
            replace ct_10_1__14 := Hct_10_1__14.out
            clear Hct_10_1__14
            replace ct_10_2__15 := Hct_10_2__15.out
            clear Hct_10_2__15
            replace ct_10_3__16 := Hct_10_3__16.out
            clear Hct_10_3__16
            replace kx_12_0 := Hkx_12_0.out
            clear Hkx_12_0
            replace kx_12_1 := Hkx_12_1.out
            clear Hkx_12_1
            replace kx_12_2 := Hkx_12_2.out
            clear Hkx_12_2
            replace kx_12_3 := Hkx_12_3.out
            clear Hkx_12_3
            replace ct_25_0 := Hct_25_0.out
            clear Hct_25_0
            replace ct_25_1 := Hct_25_1.out
            clear Hct_25_1
            replace ct_25_2 := Hct_25_2.out
            clear Hct_25_2
            replace ct_25_3 := Hct_25_3.out
            clear Hct_25_3
            have HBY6 := Lib.hid (Below.step HBw_x_12.out hY6)
            replace ct_10_0__13 := cell_below hY6 ct_10_0__13
            replace ct_10_1__14 := cell_below hY6 ct_10_1__14
            replace ct_10_2__15 := cell_below hY6 ct_10_2__15
            replace ct_10_3__16 := cell_below hY6 ct_10_3__16
            replace kx_12_0 := cell_below hY6 kx_12_0
            replace kx_12_1 := cell_below hY6 kx_12_1
            replace kx_12_2 := cell_below hY6 kx_12_2
            replace kx_12_3 := cell_below hY6 kx_12_3
            replace ct_25_0 := cell_below hY6 ct_25_0
            replace ct_25_1 := cell_below hY6 ct_25_1
            replace ct_25_2 := cell_below hY6 ct_25_2
            replace ct_25_3 := cell_below hY6 ct_25_3
            clear hY6
            cases t_29 with
            | false =>
              replace H := ite_f H
              replace H := app_hid H
              go_wp2_with fail
              go_roundg m0
              case measure => omega
              case rel => exact ⟨k0 + 1, by omega, by go_num, H, HBY6⟩
            | true =>
              replace H := ite_t H
              obtain rfl := ret_hid H
              go_wp2_with fail
              go_ret
              exact ⟨rfl, HBY6.out⟩
  | true =>
    have nht_3 : 20 < list.length := by have := of_decide_eq_true ht_3; omega
    replace H := ite_t H
    obtain rfl := ret_hid H
    go_wp2_with fail
    go_ret
    exact ⟨rfl, HB.out⟩
end Go.Proofs.Ytlljmgphgmklcaa.GiIsTimetable

/- loop.example/g01062/impl.isDay as a plain function, and the contract of the program's: where the plain one has an answer, the program has it. Conditions: slices read as lists. -/
namespace Go.Proofs.Ytlljmgphgmklcaa.GiIsDay
set_option linter.unusedVariables false
set_option linter.unusedSimpArgs false
open Go.RowKit
open Go.Proofs.Ytlljmgphgmklcaa.Rowed Go.Proofs.Ytlljmgphgmklcaa.Turn Go.Proofs.Ytlljmgphgmklcaa.Aid Go.Proofs.Ytlljmgphgmklcaa.GoP Go.Proofs.Ytlljmgphgmklcaa.GoM

def P (day : Int) : Option (Bool) :=
  Option.bind (Go.Proofs.Ytlljmgphgmklcaa.GiWithin.P day 0 4000) fun (t_2 : Bool) =>
  some t_2

set_option maxRecDepth 100000 in
set_option maxHeartbeats 2000000 in
theorem C (day : Int)   (w : World)   {r : Bool} (H : Hid (P day = some r)) :
    Calls Try.prog 79 #[.int .i64 day] w (Gives (.bool r) w) := by
  have HB := Lib.hid (Below.refl w.heap.size w)
  unfold P at H
  go_enter Try.func79, Try.ntmps79
  replace H := bind_hid H
  obtain ⟨t_2, qt_2, H⟩ := H
  go_wp2_with fail
  go_at_call 78
  refine (Go.Proofs.Ytlljmgphgmklcaa.GiWithin.C (day) (0) (4000)  _    qt_2).mono ?_
  rintro e_t_2 wt_2 ⟨rfl, bt_2⟩
  have HBwt_2 := Lib.hid (Below.step HB.out bt_2)
  clear bt_2
  obtain rfl := ret_hid H
  go_wp2_with fail
  go_ret
  exact ⟨rfl, HBwt_2.out⟩
end Go.Proofs.Ytlljmgphgmklcaa.GiIsDay

/- loop.example/g01062/impl.isZone as a plain function, and the contract of the program's: where the plain one has an answer, the program has it. Conditions: slices read as lists. -/
namespace Go.Proofs.Ytlljmgphgmklcaa.GiIsZone
set_option linter.unusedVariables false
set_option linter.unusedSimpArgs false
open Go.RowKit
open Go.Proofs.Ytlljmgphgmklcaa.Rowed Go.Proofs.Ytlljmgphgmklcaa.Turn Go.Proofs.Ytlljmgphgmklcaa.Aid Go.Proofs.Ytlljmgphgmklcaa.GoP Go.Proofs.Ytlljmgphgmklcaa.GoM

def P (zone : Int) : Option (Bool) :=
  Option.bind (Go.Proofs.Ytlljmgphgmklcaa.GiWithin.P zone 0 9) fun (t_2 : Bool) =>
  some t_2

set_option maxRecDepth 100000 in
set_option maxHeartbeats 2000000 in
theorem C (zone : Int)   (w : World)   {r : Bool} (H : Hid (P zone = some r)) :
    Calls Try.prog 80 #[.int .i64 zone] w (Gives (.bool r) w) := by
  have HB := Lib.hid (Below.refl w.heap.size w)
  unfold P at H
  go_enter Try.func80, Try.ntmps80
  replace H := bind_hid H
  obtain ⟨t_2, qt_2, H⟩ := H
  go_wp2_with fail
  go_at_call 78
  refine (Go.Proofs.Ytlljmgphgmklcaa.GiWithin.C (zone) (0) (9)  _    qt_2).mono ?_
  rintro e_t_2 wt_2 ⟨rfl, bt_2⟩
  have HBwt_2 := Lib.hid (Below.step HB.out bt_2)
  clear bt_2
  obtain rfl := ret_hid H
  go_wp2_with fail
  go_ret
  exact ⟨rfl, HBwt_2.out⟩
end Go.Proofs.Ytlljmgphgmklcaa.GiIsZone

/- loop.example/g01062/impl.isWeight as a plain function, and the contract of the program's: where the plain one has an answer, the program has it. Conditions: slices read as lists. -/
namespace Go.Proofs.Ytlljmgphgmklcaa.GiIsWeight
set_option linter.unusedVariables false
set_option linter.unusedSimpArgs false
open Go.RowKit
open Go.Proofs.Ytlljmgphgmklcaa.Rowed Go.Proofs.Ytlljmgphgmklcaa.Turn Go.Proofs.Ytlljmgphgmklcaa.Aid Go.Proofs.Ytlljmgphgmklcaa.GoP Go.Proofs.Ytlljmgphgmklcaa.GoM

def P (grams : Int) : Option (Bool) :=
  Option.bind (Go.Proofs.Ytlljmgphgmklcaa.GiWithin.P grams 1 2000) fun (t_2 : Bool) =>
  some t_2

set_option maxRecDepth 100000 in
set_option maxHeartbeats 2000000 in
theorem C (grams : Int)   (w : World)   {r : Bool} (H : Hid (P grams = some r)) :
    Calls Try.prog 81 #[.int .i64 grams] w (Gives (.bool r) w) := by
  have HB := Lib.hid (Below.refl w.heap.size w)
  unfold P at H
  go_enter Try.func81, Try.ntmps81
  replace H := bind_hid H
  obtain ⟨t_2, qt_2, H⟩ := H
  go_wp2_with fail
  go_at_call 78
  refine (Go.Proofs.Ytlljmgphgmklcaa.GiWithin.C (grams) (1) (2000)  _    qt_2).mono ?_
  rintro e_t_2 wt_2 ⟨rfl, bt_2⟩
  have HBwt_2 := Lib.hid (Below.step HB.out bt_2)
  clear bt_2
  obtain rfl := ret_hid H
  go_wp2_with fail
  go_ret
  exact ⟨rfl, HBwt_2.out⟩
end Go.Proofs.Ytlljmgphgmklcaa.GiIsWeight

/- loop.example/g01062/impl.isRateCents as a plain function, and the contract of the program's: where the plain one has an answer, the program has it. Conditions: slices read as lists. -/
namespace Go.Proofs.Ytlljmgphgmklcaa.GiIsRateCents
set_option linter.unusedVariables false
set_option linter.unusedSimpArgs false
open Go.RowKit
open Go.Proofs.Ytlljmgphgmklcaa.Rowed Go.Proofs.Ytlljmgphgmklcaa.Turn Go.Proofs.Ytlljmgphgmklcaa.Aid Go.Proofs.Ytlljmgphgmklcaa.GoP Go.Proofs.Ytlljmgphgmklcaa.GoM

def P (cents : Int) : Option (Bool) :=
  Option.bind (Go.Proofs.Ytlljmgphgmklcaa.GiWithin.P cents 1 9999) fun (t_2 : Bool) =>
  some t_2

set_option maxRecDepth 100000 in
set_option maxHeartbeats 2000000 in
theorem C (cents : Int)   (w : World)   {r : Bool} (H : Hid (P cents = some r)) :
    Calls Try.prog 82 #[.int .i64 cents] w (Gives (.bool r) w) := by
  have HB := Lib.hid (Below.refl w.heap.size w)
  unfold P at H
  go_enter Try.func82, Try.ntmps82
  replace H := bind_hid H
  obtain ⟨t_2, qt_2, H⟩ := H
  go_wp2_with fail
  go_at_call 78
  refine (Go.Proofs.Ytlljmgphgmklcaa.GiWithin.C (cents) (1) (9999)  _    qt_2).mono ?_
  rintro e_t_2 wt_2 ⟨rfl, bt_2⟩
  have HBwt_2 := Lib.hid (Below.step HB.out bt_2)
  clear bt_2
  obtain rfl := ret_hid H
  go_wp2_with fail
  go_ret
  exact ⟨rfl, HBwt_2.out⟩
end Go.Proofs.Ytlljmgphgmklcaa.GiIsRateCents

/- loop.example/g01062/impl.IsCover as a plain function, and the contract of the program's: where the plain one has an answer, the program has it. Conditions: slices read as lists. -/
namespace Go.Proofs.Ytlljmgphgmklcaa.GiIsCover
set_option linter.unusedVariables false
set_option linter.unusedSimpArgs false
open Go.RowKit
open Go.Proofs.Ytlljmgphgmklcaa.Rowed Go.Proofs.Ytlljmgphgmklcaa.Turn Go.Proofs.Ytlljmgphgmklcaa.Aid Go.Proofs.Ytlljmgphgmklcaa.GoP Go.Proofs.Ytlljmgphgmklcaa.GoM

def P (x : Go.Proofs.Ytlljmgphgmklcaa.PCover.Cover) : Option (Bool) :=
  unCover x fun (x_id : Int) (x_day : Int) (x_zone : Int) (x_grams : Int) (x_paid : Int) (x_from_ : Int) (x_to_ : Int) (x_leave : Int) (x_arrive : Int) =>
  Option.bind (Go.Proofs.Ytlljmgphgmklcaa.GiWithin.P x_id 1 999) fun (t_4 : Bool) =>
  joinK (fun (t_9 : Bool) =>
  joinK (fun (t_14 : Bool) =>
  joinK (fun (t_19 : Bool) =>
  joinK (fun (t_24 : Bool) =>
  joinK (fun (t_29 : Bool) =>
  joinK (fun (t_34 : Bool) =>
  joinK (fun (t_41 : Bool) =>
  joinK (fun (t_46 : Bool) =>
  joinK (fun (t_51 : Bool) =>
  joinK (fun (t_58 : Bool) =>
  some t_58) fun jt_58 => iteK t_51 (letK (decide (x_leave ≤ x_arrive)) fun (t_57 : Bool) =>
  appK jt_58 t_57) (appK jt_58 false)) fun jt_51 => iteK t_46 (Option.bind (Go.Proofs.Ytlljmgphgmklcaa.GiIsMinute.P x_arrive) fun (t_50 : Bool) =>
  appK jt_51 t_50) (appK jt_51 false)) fun jt_46 => iteK t_41 (Option.bind (Go.Proofs.Ytlljmgphgmklcaa.GiIsMinute.P x_leave) fun (t_45 : Bool) =>
  appK jt_46 t_45) (appK jt_46 false)) fun jt_41 => iteK t_34 (letK (x_from_ != x_to_) fun (t_40 : Bool) =>
  appK jt_41 t_40) (appK jt_41 false)) fun jt_34 => iteK t_29 (Option.bind (Go.Proofs.Ytlljmgphgmklcaa.GiIsPostOffice.P x_to_) fun (t_33 : Bool) =>
  appK jt_34 t_33) (appK jt_34 false)) fun jt_29 => iteK t_24 (Option.bind (Go.Proofs.Ytlljmgphgmklcaa.GiIsPostOffice.P x_from_) fun (t_28 : Bool) =>
  appK jt_29 t_28) (appK jt_29 false)) fun jt_24 => iteK t_19 (Option.bind (Go.Proofs.Ytlljmgphgmklcaa.GiIsRateCents.P x_paid) fun (t_23 : Bool) =>
  appK jt_24 t_23) (appK jt_24 false)) fun jt_19 => iteK t_14 (Option.bind (Go.Proofs.Ytlljmgphgmklcaa.GiIsWeight.P x_grams) fun (t_18 : Bool) =>
  appK jt_19 t_18) (appK jt_19 false)) fun jt_14 => iteK t_9 (Option.bind (Go.Proofs.Ytlljmgphgmklcaa.GiIsZone.P x_zone) fun (t_13 : Bool) =>
  appK jt_14 t_13) (appK jt_14 false)) fun jt_9 => iteK t_4 (Option.bind (Go.Proofs.Ytlljmgphgmklcaa.GiIsDay.P x_day) fun (t_8 : Bool) =>
  appK jt_9 t_8) (appK jt_9 false)

set_option maxRecDepth 100000 in
set_option maxHeartbeats 2000000 in
theorem C (x : Go.Proofs.Ytlljmgphgmklcaa.PCover.Cover)   (w : World)   {r : Bool} (H : Hid (P x = some r)) :
    Calls Try.prog 18 #[x.val] w (Gives (.bool r) w) := by
  have HB := Lib.hid (Below.refl w.heap.size w)
  unfold P at H
  obtain ⟨x_id, x_day, x_zone, x_grams, x_paid, x_from_, x_to_, x_leave, x_arrive⟩ := x
  replace H := unCover_hid H
  unfold Go.Proofs.Ytlljmgphgmklcaa.PCover.Cover.val
  go_enter Try.func18, Try.ntmps18
  obtain ⟨w_x_0, hw_x_0⟩ : ∃ x, w.alloc (.cells #[.int .i64 x_id, .int .i64 x_day, .int .i64 x_zone, .int .i64 x_grams, .int .i64 x_paid, .int .i64 x_from_, .int .i64 x_to_, .int .i64 x_leave, .int .i64 x_arrive] 25) = x := ⟨_, rfl⟩
  have bw_x_0 : Below w.heap.size w w_x_0 := by rw [← hw_x_0]; exact (Below.refl _ _).alloc (Nat.le_refl _) _
  have HBw_x_0 := Lib.hid (Below.step HB.out bw_x_0)
  clear bw_x_0
  have kx_0_0 : w_x_0.cell? ⟨w.heap.size, 0, none⟩ = some (.int .i64 x_id) := by rw [← hw_x_0]; exact box_new _ _ _ 0 _ rfl
  have kx_0_1 : w_x_0.cell? ⟨w.heap.size, 1, none⟩ = some (.int .i64 x_day) := by rw [← hw_x_0]; exact box_new _ _ _ 1 _ rfl
  have kx_0_2 : w_x_0.cell? ⟨w.heap.size, 2, none⟩ = some (.int .i64 x_zone) := by rw [← hw_x_0]; exact box_new _ _ _ 2 _ rfl
  have kx_0_3 : w_x_0.cell? ⟨w.heap.size, 3, none⟩ = some (.int .i64 x_grams) := by rw [← hw_x_0]; exact box_new _ _ _ 3 _ rfl
  have kx_0_4 : w_x_0.cell? ⟨w.heap.size, 4, none⟩ = some (.int .i64 x_paid) := by rw [← hw_x_0]; exact box_new _ _ _ 4 _ rfl
  have kx_0_5 : w_x_0.cell? ⟨w.heap.size, 5, none⟩ = some (.int .i64 x_from_) := by rw [← hw_x_0]; exact box_new _ _ _ 5 _ rfl
  have kx_0_6 : w_x_0.cell? ⟨w.heap.size, 6, none⟩ = some (.int .i64 x_to_) := by rw [← hw_x_0]; exact box_new _ _ _ 6 _ rfl
  have kx_0_7 : w_x_0.cell? ⟨w.heap.size, 7, none⟩ = some (.int .i64 x_leave) := by rw [← hw_x_0]; exact box_new _ _ _ 7 _ rfl
  have kx_0_8 : w_x_0.cell? ⟨w.heap.size, 8, none⟩ = some (.int .i64 x_arrive) := by rw [← hw_x_0]; exact box_new _ _ _ 8 _ rfl
  replace H := bind_hid H
  obtain ⟨t_4, qt_4, H⟩ := H
  go_wp2_with fail
  go_at_call 78
  refine (Go.Proofs.Ytlljmgphgmklcaa.GiWithin.C (x_id) (1) (999)  _    qt_4).mono ?_
  rintro e_t_4 wt_4 ⟨rfl, bt_4⟩
  have HBwt_4 := Lib.hid (Below.step HBw_x_0.out bt_4)
  replace kx_0_0 := cell_below bt_4 kx_0_0
  replace kx_0_1 := cell_below bt_4 kx_0_1
  replace kx_0_2 := cell_below bt_4 kx_0_2
  replace kx_0_3 := cell_below bt_4 kx_0_3
  replace kx_0_4 := cell_below bt_4 kx_0_4
  replace kx_0_5 := cell_below bt_4 kx_0_5
  replace kx_0_6 := cell_below bt_4 kx_0_6
  replace kx_0_7 := cell_below bt_4 kx_0_7
  replace kx_0_8 := cell_below bt_4 kx_0_8
  clear bt_4
  replace H := join_hid H
  cases t_4 with
  | false =>
    replace H := ite_f H
    replace H := app_hid H
    replace H := join_hid H
    replace H := ite_f H
    replace H := app_hid H
    replace H := join_hid H
    replace H := ite_f H
    replace H := app_hid H
    replace H := join_hid H
    replace H := ite_f H
    replace H := app_hid H
    replace H := join_hid H
    replace H := ite_f H
    replace H := app_hid H
    replace H := join_hid H
    replace H := ite_f H
    replace H := app_hid H
    replace H := join_hid H
    replace H := ite_f H
    replace H := app_hid H
    replace H := join_hid H
    replace H := ite_f H
    replace H := app_hid H
    replace H := join_hid H
    replace H := ite_f H
    replace H := app_hid H
    replace H := join_hid H
    replace H := ite_f H
    replace H := app_hid H
    obtain rfl := ret_hid H
    go_wp2_with fail
    go_ret
    exact ⟨rfl, HBwt_4.out⟩
  | true =>
    replace H := ite_t H
    replace H := bind_hid H
    obtain ⟨t_8, qt_8, H⟩ := H
    go_wp2_with fail
    go_at_call 79
    refine (Go.Proofs.Ytlljmgphgmklcaa.GiIsDay.C (x_day)  _    qt_8).mono ?_
    rintro e_t_8 wt_8 ⟨rfl, bt_8⟩
    have HBwt_8 := Lib.hid (Below.step HBwt_4.out bt_8)
    replace kx_0_0 := cell_below bt_8 kx_0_0
    replace kx_0_1 := cell_below bt_8 kx_0_1
    replace kx_0_2 := cell_below bt_8 kx_0_2
    replace kx_0_3 := cell_below bt_8 kx_0_3
    replace kx_0_4 := cell_below bt_8 kx_0_4
    replace kx_0_5 := cell_below bt_8 kx_0_5
    replace kx_0_6 := cell_below bt_8 kx_0_6
    replace kx_0_7 := cell_below bt_8 kx_0_7
    replace kx_0_8 := cell_below bt_8 kx_0_8
    clear bt_8
    replace H := app_hid H
    replace H := join_hid H
    cases t_8 with
    | false =>
      replace H := ite_f H
      replace H := app_hid H
      replace H := join_hid H
      replace H := ite_f H
      replace H := app_hid H
      replace H := join_hid H
      replace H := ite_f H
      replace H := app_hid H
      replace H := join_hid H
      replace H := ite_f H
      replace H := app_hid H
      replace H := join_hid H
      replace H := ite_f H
      replace H := app_hid H
      replace H := join_hid H
      replace H := ite_f H
      replace H := app_hid H
      replace H := join_hid H
      replace H := ite_f H
      replace H := app_hid H
      replace H := join_hid H
      replace H := ite_f H
      replace H := app_hid H
      replace H := join_hid H
      replace H := ite_f H
      replace H := app_hid H
      obtain rfl := ret_hid H
      go_wp2_with fail
      go_ret
      exact ⟨rfl, HBwt_8.out⟩
    | true =>
      replace H := ite_t H
      replace H := bind_hid H
      obtain ⟨t_13, qt_13, H⟩ := H
      go_wp2_with fail
      go_at_call 80
      refine (Go.Proofs.Ytlljmgphgmklcaa.GiIsZone.C (x_zone)  _    qt_13).mono ?_
      rintro e_t_13 wt_13 ⟨rfl, bt_13⟩
      have HBwt_13 := Lib.hid (Below.step HBwt_8.out bt_13)
      replace kx_0_0 := cell_below bt_13 kx_0_0
      replace kx_0_1 := cell_below bt_13 kx_0_1
      replace kx_0_2 := cell_below bt_13 kx_0_2
      replace kx_0_3 := cell_below bt_13 kx_0_3
      replace kx_0_4 := cell_below bt_13 kx_0_4
      replace kx_0_5 := cell_below bt_13 kx_0_5
      replace kx_0_6 := cell_below bt_13 kx_0_6
      replace kx_0_7 := cell_below bt_13 kx_0_7
      replace kx_0_8 := cell_below bt_13 kx_0_8
      clear bt_13
      replace H := app_hid H
      replace H := join_hid H
      cases t_13 with
      | false =>
        replace H := ite_f H
        replace H := app_hid H
        replace H := join_hid H
        replace H := ite_f H
        replace H := app_hid H
        replace H := join_hid H
        replace H := ite_f H
        replace H := app_hid H
        replace H := join_hid H
        replace H := ite_f H
        replace H := app_hid H
        replace H := join_hid H
        replace H := ite_f H
        replace H := app_hid H
        replace H := join_hid H
        replace H := ite_f H
        replace H := app_hid H
        replace H := join_hid H
        replace H := ite_f H
        replace H := app_hid H
        replace H := join_hid H
        replace H := ite_f H
        replace H := app_hid H
        obtain rfl := ret_hid H
        go_wp2_with fail
        go_ret
        exact ⟨rfl, HBwt_13.out⟩
      | true =>
        replace H := ite_t H
        replace H := bind_hid H
        obtain ⟨t_18, qt_18, H⟩ := H
        go_wp2_with fail
        go_at_call 81
        refine (Go.Proofs.Ytlljmgphgmklcaa.GiIsWeight.C (x_grams)  _    qt_18).mono ?_
        rintro e_t_18 wt_18 ⟨rfl, bt_18⟩
        have HBwt_18 := Lib.hid (Below.step HBwt_13.out bt_18)
        replace kx_0_0 := cell_below bt_18 kx_0_0
        replace kx_0_1 := cell_below bt_18 kx_0_1
        replace kx_0_2 := cell_below bt_18 kx_0_2
        replace kx_0_3 := cell_below bt_18 kx_0_3
        replace kx_0_4 := cell_below bt_18 kx_0_4
        replace kx_0_5 := cell_below bt_18 kx_0_5
        replace kx_0_6 := cell_below bt_18 kx_0_6
        replace kx_0_7 := cell_below bt_18 kx_0_7
        replace kx_0_8 := cell_below bt_18 kx_0_8
        clear bt_18
        replace H := app_hid H
        replace H := join_hid H
        cases t_18 with
        | false =>
          replace H := ite_f H
          replace H := app_hid H
          replace H := join_hid H
          replace H := ite_f H
          replace H := app_hid H
          replace H := join_hid H
          replace H := ite_f H
          replace H := app_hid H
          replace H := join_hid H
          replace H := ite_f H
          replace H := app_hid H
          replace H := join_hid H
          replace H := ite_f H
          replace H := app_hid H
          replace H := join_hid H
          replace H := ite_f H
          replace H := app_hid H
          replace H := join_hid H
          replace H := ite_f H
          replace H := app_hid H
          obtain rfl := ret_hid H
          go_wp2_with fail
          go_ret
          exact ⟨rfl, HBwt_18.out⟩
        | true =>
          replace H := ite_t H
          replace H := bind_hid H
          obtain ⟨t_23, qt_23, H⟩ := H
          go_wp2_with fail
          go_at_call 82
          refine (Go.Proofs.Ytlljmgphgmklcaa.GiIsRateCents.C (x_paid)  _    qt_23).mono ?_
          rintro e_t_23 wt_23 ⟨rfl, bt_23⟩
          have HBwt_23 := Lib.hid (Below.step HBwt_18.out bt_23)
          replace kx_0_0 := cell_below bt_23 kx_0_0
          replace kx_0_1 := cell_below bt_23 kx_0_1
          replace kx_0_2 := cell_below bt_23 kx_0_2
          replace kx_0_3 := cell_below bt_23 kx_0_3
          replace kx_0_4 := cell_below bt_23 kx_0_4
          replace kx_0_5 := cell_below bt_23 kx_0_5
          replace kx_0_6 := cell_below bt_23 kx_0_6
          replace kx_0_7 := cell_below bt_23 kx_0_7
          replace kx_0_8 := cell_below bt_23 kx_0_8
          clear bt_23
          replace H := app_hid H
          replace H := join_hid H
          cases t_23 with
          | false =>
            replace H := ite_f H
            replace H := app_hid H
            replace H := join_hid H
            replace H := ite_f H
            replace H := app_hid H
            replace H := join_hid H
            replace H := ite_f H
            replace H := app_hid H
            replace H := join_hid H
            replace H := ite_f H
            replace H := app_hid H
            replace H := join_hid H
            replace H := ite_f H
            replace H := app_hid H
            replace H := join_hid H
            replace H := ite_f H
            replace H := app_hid H
            obtain rfl := ret_hid H
            go_wp2_with fail
            go_ret
            exact ⟨rfl, HBwt_23.out⟩
          | true =>
            replace H := ite_t H
            replace H := bind_hid H
            obtain ⟨t_28, qt_28, H⟩ := H
            go_wp2_with fail
            go_at_call 83
            refine (Go.Proofs.Ytlljmgphgmklcaa.GiIsPostOffice.C (x_from_)  _    qt_28).mono ?_
            rintro e_t_28 wt_28 ⟨rfl, bt_28⟩
            have HBwt_28 := Lib.hid (Below.step HBwt_23.out bt_28)
            replace kx_0_0 := cell_below bt_28 kx_0_0
            replace kx_0_1 := cell_below bt_28 kx_0_1
            replace kx_0_2 := cell_below bt_28 kx_0_2
            replace kx_0_3 := cell_below bt_28 kx_0_3
            replace kx_0_4 := cell_below bt_28 kx_0_4
            replace kx_0_5 := cell_below bt_28 kx_0_5
            replace kx_0_6 := cell_below bt_28 kx_0_6
            replace kx_0_7 := cell_below bt_28 kx_0_7
            replace kx_0_8 := cell_below bt_28 kx_0_8
            clear bt_28
            replace H := app_hid H
            replace H := join_hid H
            cases t_28 with
            | false =>
              replace H := ite_f H
              replace H := app_hid H
              replace H := join_hid H
              replace H := ite_f H
              replace H := app_hid H
              replace H := join_hid H
              replace H := ite_f H
              replace H := app_hid H
              replace H := join_hid H
              replace H := ite_f H
              replace H := app_hid H
              replace H := join_hid H
              replace H := ite_f H
              replace H := app_hid H
              obtain rfl := ret_hid H
              go_wp2_with fail
              go_ret
              exact ⟨rfl, HBwt_28.out⟩
            | true =>
              replace H := ite_t H
              replace H := bind_hid H
              obtain ⟨t_33, qt_33, H⟩ := H
              go_wp2_with fail
              go_at_call 83
              refine (Go.Proofs.Ytlljmgphgmklcaa.GiIsPostOffice.C (x_to_)  _    qt_33).mono ?_
              rintro e_t_33 wt_33 ⟨rfl, bt_33⟩
              have HBwt_33 := Lib.hid (Below.step HBwt_28.out bt_33)
              replace kx_0_0 := cell_below bt_33 kx_0_0
              replace kx_0_1 := cell_below bt_33 kx_0_1
              replace kx_0_2 := cell_below bt_33 kx_0_2
              replace kx_0_3 := cell_below bt_33 kx_0_3
              replace kx_0_4 := cell_below bt_33 kx_0_4
              replace kx_0_5 := cell_below bt_33 kx_0_5
              replace kx_0_6 := cell_below bt_33 kx_0_6
              replace kx_0_7 := cell_below bt_33 kx_0_7
              replace kx_0_8 := cell_below bt_33 kx_0_8
              clear bt_33
              replace H := app_hid H
              replace H := join_hid H
              cases t_33 with
              | false =>
                replace H := ite_f H
                replace H := app_hid H
                replace H := join_hid H
                replace H := ite_f H
                replace H := app_hid H
                replace H := join_hid H
                replace H := ite_f H
                replace H := app_hid H
                replace H := join_hid H
                replace H := ite_f H
                replace H := app_hid H
                obtain rfl := ret_hid H
                go_wp2_with fail
                go_ret
                exact ⟨rfl, HBwt_33.out⟩
              | true =>
                replace H := ite_t H
                replace H := let_hid H
                obtain ⟨t_40, ht_40, H⟩ := H
                replace H := app_hid H
                replace H := join_hid H
                cases t_40 with
                | false =>
                  replace H := ite_f H
                  replace H := app_hid H
                  replace H := join_hid H
                  replace H := ite_f H
                  replace H := app_hid H
                  replace H := join_hid H
                  replace H := ite_f H
                  replace H := app_hid H
                  obtain rfl := ret_hid H
                  go_wp2_with fail
                  go_ret
                  exact ⟨rfl, HBwt_33.out⟩
                | true =>
                  replace H := ite_t H
                  replace H := bind_hid H
                  obtain ⟨t_45, qt_45, H⟩ := H
                  go_wp2_with fail
                  go_at_call 84
                  refine (Go.Proofs.Ytlljmgphgmklcaa.GiIsMinute.C (x_leave)  _    qt_45).mono ?_
                  rintro e_t_45 wt_45 ⟨rfl, bt_45⟩
                  have HBwt_45 := Lib.hid (Below.step HBwt_33.out bt_45)
                  replace kx_0_0 := cell_below bt_45 kx_0_0
                  replace kx_0_1 := cell_below bt_45 kx_0_1
                  replace kx_0_2 := cell_below bt_45 kx_0_2
                  replace kx_0_3 := cell_below bt_45 kx_0_3
                  replace kx_0_4 := cell_below bt_45 kx_0_4
                  replace kx_0_5 := cell_below bt_45 kx_0_5
                  replace kx_0_6 := cell_below bt_45 kx_0_6
                  replace kx_0_7 := cell_below bt_45 kx_0_7
                  replace kx_0_8 := cell_below bt_45 kx_0_8
                  clear bt_45
                  replace H := app_hid H
                  replace H := join_hid H
                  cases t_45 with
                  | false =>
                    replace H := ite_f H
                    replace H := app_hid H
                    replace H := join_hid H
                    replace H := ite_f H
                    replace H := app_hid H
                    obtain rfl := ret_hid H
                    go_wp2_with fail
                    go_ret
                    exact ⟨rfl, HBwt_45.out⟩
                  | true =>
                    replace H := ite_t H
                    replace H := bind_hid H
                    obtain ⟨t_50, qt_50, H⟩ := H
                    go_wp2_with fail
                    go_at_call 84
                    refine (Go.Proofs.Ytlljmgphgmklcaa.GiIsMinute.C (x_arrive)  _    qt_50).mono ?_
                    rintro e_t_50 wt_50 ⟨rfl, bt_50⟩
                    have HBwt_50 := Lib.hid (Below.step HBwt_45.out bt_50)
                    replace kx_0_0 := cell_below bt_50 kx_0_0
                    replace kx_0_1 := cell_below bt_50 kx_0_1
                    replace kx_0_2 := cell_below bt_50 kx_0_2
                    replace kx_0_3 := cell_below bt_50 kx_0_3
                    replace kx_0_4 := cell_below bt_50 kx_0_4
                    replace kx_0_5 := cell_below bt_50 kx_0_5
                    replace kx_0_6 := cell_below bt_50 kx_0_6
                    replace kx_0_7 := cell_below bt_50 kx_0_7
                    replace kx_0_8 := cell_below bt_50 kx_0_8
                    clear bt_50
                    replace H := app_hid H
                    replace H := join_hid H
                    cases t_50 with
                    | false =>
                      replace H := ite_f H
                      replace H := app_hid H
                      obtain rfl := ret_hid H
                      go_wp2_with fail
                      go_ret
                      exact ⟨rfl, HBwt_50.out⟩
                    | true =>
                      replace H := ite_t H
                      replace H := let_hid H
                      obtain ⟨t_57, ht_57, H⟩ := H
                      replace H := app_hid H
                      obtain rfl := ret_hid H
                      go_wp2_with fail
                      go_ret
                      exact ⟨rfl, HBwt_50.out⟩
end Go.Proofs.Ytlljmgphgmklcaa.GiIsCover

/- loop.example/g01062/impl.idOfCover as a plain function, and the contract of the program's: where the plain one has an answer, the program has it. Conditions: slices read as lists. -/
namespace Go.Proofs.Ytlljmgphgmklcaa.GiIdOfCover
set_option linter.unusedVariables false
set_option linter.unusedSimpArgs false
open Go.RowKit
open Go.Proofs.Ytlljmgphgmklcaa.Rowed Go.Proofs.Ytlljmgphgmklcaa.Turn Go.Proofs.Ytlljmgphgmklcaa.Aid Go.Proofs.Ytlljmgphgmklcaa.GoP Go.Proofs.Ytlljmgphgmklcaa.GoM

def P (x : Go.Proofs.Ytlljmgphgmklcaa.PCover.Cover) : Option (Int) :=
  unCover x fun (x_id : Int) (x_day : Int) (x_zone : Int) (x_grams : Int) (x_paid : Int) (x_from_ : Int) (x_to_ : Int) (x_leave : Int) (x_arrive : Int) =>
  some x_id

set_option maxRecDepth 100000 in
set_option maxHeartbeats 2000000 in
theorem C (x : Go.Proofs.Ytlljmgphgmklcaa.PCover.Cover)   (w : World)   {r : Int} (H : Hid (P x = some r)) :
    Calls Try.prog 87 #[x.val] w (Gives (.int .i64 r) w) := by
  have HB := Lib.hid (Below.refl w.heap.size w)
  unfold P at H
  obtain ⟨x_id, x_day, x_zone, x_grams, x_paid, x_from_, x_to_, x_leave, x_arrive⟩ := x
  replace H := unCover_hid H
  unfold Go.Proofs.Ytlljmgphgmklcaa.PCover.Cover.val
  go_enter Try.func87, Try.ntmps87
  obtain ⟨w_x_0, hw_x_0⟩ : ∃ x, w.alloc (.cells #[.int .i64 x_id, .int .i64 x_day, .int .i64 x_zone, .int .i64 x_grams, .int .i64 x_paid, .int .i64 x_from_, .int .i64 x_to_, .int .i64 x_leave, .int .i64 x_arrive] 25) = x := ⟨_, rfl⟩
  have bw_x_0 : Below w.heap.size w w_x_0 := by rw [← hw_x_0]; exact (Below.refl _ _).alloc (Nat.le_refl _) _
  have HBw_x_0 := Lib.hid (Below.step HB.out bw_x_0)
  clear bw_x_0
  have kx_0_0 : w_x_0.cell? ⟨w.heap.size, 0, none⟩ = some (.int .i64 x_id) := by rw [← hw_x_0]; exact box_new _ _ _ 0 _ rfl
  have kx_0_1 : w_x_0.cell? ⟨w.heap.size, 1, none⟩ = some (.int .i64 x_day) := by rw [← hw_x_0]; exact box_new _ _ _ 1 _ rfl
  have kx_0_2 : w_x_0.cell? ⟨w.heap.size, 2, none⟩ = some (.int .i64 x_zone) := by rw [← hw_x_0]; exact box_new _ _ _ 2 _ rfl
  have kx_0_3 : w_x_0.cell? ⟨w.heap.size, 3, none⟩ = some (.int .i64 x_grams) := by rw [← hw_x_0]; exact box_new _ _ _ 3 _ rfl
  have kx_0_4 : w_x_0.cell? ⟨w.heap.size, 4, none⟩ = some (.int .i64 x_paid) := by rw [← hw_x_0]; exact box_new _ _ _ 4 _ rfl
  have kx_0_5 : w_x_0.cell? ⟨w.heap.size, 5, none⟩ = some (.int .i64 x_from_) := by rw [← hw_x_0]; exact box_new _ _ _ 5 _ rfl
  have kx_0_6 : w_x_0.cell? ⟨w.heap.size, 6, none⟩ = some (.int .i64 x_to_) := by rw [← hw_x_0]; exact box_new _ _ _ 6 _ rfl
  have kx_0_7 : w_x_0.cell? ⟨w.heap.size, 7, none⟩ = some (.int .i64 x_leave) := by rw [← hw_x_0]; exact box_new _ _ _ 7 _ rfl
  have kx_0_8 : w_x_0.cell? ⟨w.heap.size, 8, none⟩ = some (.int .i64 x_arrive) := by rw [← hw_x_0]; exact box_new _ _ _ 8 _ rfl
  obtain rfl := ret_hid H
  go_wp2_with fail
  go_ret
  exact ⟨rfl, HBw_x_0.out⟩
end Go.Proofs.Ytlljmgphgmklcaa.GiIdOfCover

/- loop.example/g01062/impl.areByKey[loop.example/g01062/impl.Cover,int] as a plain function, and the contract of the program's: where the plain one has an answer, the program has it. Conditions: slices read as lists. -/
namespace Go.Proofs.Ytlljmgphgmklcaa.GiAreByKeyCoverIntiIsCoveriIdOfCover
set_option linter.unusedVariables false
set_option linter.unusedSimpArgs false
open Go.RowKit
open Go.Proofs.Ytlljmgphgmklcaa.Rowed Go.Proofs.Ytlljmgphgmklcaa.Turn Go.Proofs.Ytlljmgphgmklcaa.Aid Go.Proofs.Ytlljmgphgmklcaa.GoP Go.Proofs.Ytlljmgphgmklcaa.GoM

def l0 (list : (List Go.Proofs.Ytlljmgphgmklcaa.PCover.Cover)) (k0 : Nat) (s : Unit) (nx0 bk0 : Unit → Option (Bool)) : Option (Bool) :=
  
  Option.bind (idx list (k0 : Int)) fun (yt_11 : Go.Proofs.Ytlljmgphgmklcaa.PCover.Cover) =>
  unCover yt_11 fun (t_11_id : Int) (t_11_day : Int) (t_11_zone : Int) (t_11_grams : Int) (t_11_paid : Int) (t_11_from_ : Int) (t_11_to_ : Int) (t_11_leave : Int) (t_11_arrive : Int) =>
  Option.bind (Go.Proofs.Ytlljmgphgmklcaa.GiIsCover.P (Go.Proofs.Ytlljmgphgmklcaa.PCover.Cover.mk t_11_id t_11_day t_11_zone t_11_grams t_11_paid t_11_from_ t_11_to_ t_11_leave t_11_arrive)) fun (t_18 : Bool) =>
  letK (!t_18) fun (t_19 : Bool) =>
  joinK (fun (t_36 : Bool) =>
  iteK t_36
  (some false)
  (appK nx0 ())) fun jt_36 => iteK t_19 (appK jt_36 true) (letK (decide (0 < (k0 : Int))) fun (t_22 : Bool) =>
  joinK (fun (t_35 : Bool) =>
  appK jt_36 t_35) fun jt_35 => iteK t_22 (Option.bind (Go.Proofs.Ytlljmgphgmklcaa.GiIdOfCover.P (Go.Proofs.Ytlljmgphgmklcaa.PCover.Cover.mk t_11_id t_11_day t_11_zone t_11_grams t_11_paid t_11_from_ t_11_to_ t_11_leave t_11_arrive)) fun (t_26 : Int) =>
  letK (IntKind.i64.wrap ((k0 : Int) - 1)) fun (t_30 : Int) =>
  Option.bind (idx list t_30) fun (yt_31 : Go.Proofs.Ytlljmgphgmklcaa.PCover.Cover) =>
  unCover yt_31 fun (t_31_id : Int) (t_31_day : Int) (t_31_zone : Int) (t_31_grams : Int) (t_31_paid : Int) (t_31_from_ : Int) (t_31_to_ : Int) (t_31_leave : Int) (t_31_arrive : Int) =>
  Option.bind (Go.Proofs.Ytlljmgphgmklcaa.GiIdOfCover.P (Go.Proofs.Ytlljmgphgmklcaa.PCover.Cover.mk t_31_id t_31_day t_31_zone t_31_grams t_31_paid t_31_from_ t_31_to_ t_31_leave t_31_arrive)) fun (t_33 : Int) =>
  letK (decide (t_26 ≤ t_33)) fun (t_34 : Bool) =>
  appK jt_35 t_34) (appK jt_35 false))

def e0  (s : Unit) : Option (Bool) :=
  
  some true

def P (list : (List Go.Proofs.Ytlljmgphgmklcaa.PCover.Cover)) (most : Int) : Option (Bool) :=
  letK (decide (most < (list.length : Int))) fun (t_4 : Bool) =>
  iteK t_4
  (some false)
  (cntK (l0 list) (list.length) 0 () (e0 ))

set_option maxRecDepth 100000 in
set_option maxHeartbeats 2000000 in
theorem C (list : (List Go.Proofs.Ytlljmgphgmklcaa.PCover.Cover)) (most : Int) (A0 : Option Addr) (c0 : Nat)  (w : World) (M0 : Hid (Cells w 9 A0 list.length (Go.Proofs.Ytlljmgphgmklcaa.PCover.flat list))) (N0 : Hid (list.length ≤ 9223372036854775807))  {r : Bool} (H : Hid (P list most = some r)) :
    Calls Try.prog 86 #[.slice A0 list.length c0, .int .i64 most, .func (.func 18) #[] #[], .func (.func 87) #[] #[]] w (Gives (.bool r) w) := by
  have HB := Lib.hid (Below.refl w.heap.size w)
  unfold P at H
  have N0o := N0.out
  go_enter Try.func86, Try.ntmps86
  replace H := let_hid H
  obtain ⟨t_4, ht_4, H⟩ := H
  cases t_4 with
  | false =>
    replace H := ite_f H
    go_wp2_with fail
    go_loopg [17] (list.length) (fun m_ v17_ wr => ∃ (k0 : Nat) , k0 + m_ = list.length ∧ v17_ = .int .i64 (k0 : Int) ∧ Hid (cntK (l0 list) m_ k0 () (e0 ) = some r) ∧ Hid (Below w.heap.size w wr))
    case atStart => exact ⟨0, by omega, rfl, H, HB⟩
    case round =>
      obtain ⟨k0, hkm0, rfl, H, HBwr0⟩ := hrel
      rename World => wr0
      cases gk with
      | zero =>
        obtain rfl : k0 = list.length := by omega
        have hc0 : decide (((list.length : Nat) : Int) < ((list.length : Nat) : Int)) = false := by simp
        replace H := cnt_zero H
        unfold e0 at H
        obtain rfl := ret_hid H
        go_wp2_with fail
        go_ret
        exact ⟨rfl, HBwr0.out⟩
      | succ m0 =>
        have hlt0 : k0 < list.length := by omega
        have hc0 : decide ((k0 : Int) < ((list.length : Nat) : Int)) = true := by simp; omega
        replace H := cnt_succ H
        unfold l0 at H
        replace H := idx_hid H
        obtain ⟨nt_11, yt_11, et_11, lt_11, gt_11, H⟩ := H
        obtain rfl : k0 = nt_11 := by omega
        clear et_11
        obtain ⟨t_11_id, t_11_day, t_11_zone, t_11_grams, t_11_paid, t_11_from_, t_11_to_, t_11_leave, t_11_arrive⟩ := yt_11
        replace H := unCover_hid H
        obtain ⟨ab_t_11, ao_t_11, zt_11, At_11, z_t_11, ct_11_0, ct_11_1, ct_11_2, ct_11_3, ct_11_4, ct_11_5, ct_11_6, ct_11_7, ct_11_8⟩ := Go.Proofs.Ytlljmgphgmklcaa.OCover.at_ M0.out lt_11
        obtain rfl := Option.some.inj (gt_11.out.symm.trans z_t_11)
        subst At_11
        have ltt_11 := cell_lt ct_11_0
        replace ct_11_0 := cell_below HBwr0.out ct_11_0
        replace ct_11_1 := cell_below HBwr0.out ct_11_1
        replace ct_11_2 := cell_below HBwr0.out ct_11_2
        replace ct_11_3 := cell_below HBwr0.out ct_11_3
        replace ct_11_4 := cell_below HBwr0.out ct_11_4
        replace ct_11_5 := cell_below HBwr0.out ct_11_5
        replace ct_11_6 := cell_below HBwr0.out ct_11_6
        replace ct_11_7 := cell_below HBwr0.out ct_11_7
        replace ct_11_8 := cell_below HBwr0.out ct_11_8
        clear z_t_11
        have b0t_11 : (0 : Int) ≤ (k0 : Int) := by omega
        have b1t_11 : (k0 : Int) < ((list.length : Nat) : Int) := by omega
        have b2t_11 : ((k0 : Int)).toNat = k0 := by omega
        obtain ⟨w_e_13, hw_e_13⟩ : ∃ x, wr0.alloc (.cells #[.int .i64 t_11_id, .int .i64 t_11_day, .int .i64 t_11_zone, .int .i64 t_11_grams, .int .i64 t_11_paid, .int .i64 t_11_from_, .int .i64 t_11_to_, .int .i64 t_11_leave, .int .i64 t_11_arrive] 25) = x := ⟨_, rfl⟩
        have bw_e_13 : Below wr0.heap.size wr0 w_e_13 := by rw [← hw_e_13]; exact (Below.refl _ _).alloc (Nat.le_refl _) _
        have HBw_e_13 := Lib.hid (Below.step HBwr0.out bw_e_13)
        have ct_11_0__464 := cell_below bw_e_13 ct_11_0
        have ct_11_1__465 := cell_below bw_e_13 ct_11_1
        have ct_11_2__466 := cell_below bw_e_13 ct_11_2
        have ct_11_3__467 := cell_below bw_e_13 ct_11_3
        have ct_11_4__468 := cell_below bw_e_13 ct_11_4
        have ct_11_5__469 := cell_below bw_e_13 ct_11_5
        have ct_11_6__470 := cell_below bw_e_13 ct_11_6
        have ct_11_7__471 := cell_below bw_e_13 ct_11_7
        have ct_11_8__472 := cell_below bw_e_13 ct_11_8
        clear bw_e_13
        have ke_13_0 : w_e_13.cell? ⟨wr0.heap.size, 0, none⟩ = some (.int .i64 t_11_id) := by rw [← hw_e_13]; exact box_new _ _ _ 0 _ rfl
        have ke_13_1 : w_e_13.cell? ⟨wr0.heap.size, 1, none⟩ = some (.int .i64 t_11_day) := by rw [← hw_e_13]; exact box_new _ _ _ 1 _ rfl
        have ke_13_2 : w_e_13.cell? ⟨wr0.heap.size, 2, none⟩ = some (.int .i64 t_11_zone) := by rw [← hw_e_13]; exact box_new _ _ _ 2 _ rfl
        have ke_13_3 : w_e_13.cell? ⟨wr0.heap.size, 3, none⟩ = some (.int .i64 t_11_grams) := by rw [← hw_e_13]; exact box_new _ _ _ 3 _ rfl
        have ke_13_4 : w_e_13.cell? ⟨wr0.heap.size, 4, none⟩ = some (.int .i64 t_11_paid) := by rw [← hw_e_13]; exact box_new _ _ _ 4 _ rfl
        have ke_13_5 : w_e_13.cell? ⟨wr0.heap.size, 5, none⟩ = some (.int .i64 t_11_from_) := by rw [← hw_e_13]; exact box_new _ _ _ 5 _ rfl
        have ke_13_6 : w_e_13.cell? ⟨wr0.heap.size, 6, none⟩ = some (.int .i64 t_11_to_) := by rw [← hw_e_13]; exact box_new _ _ _ 6 _ rfl
        have ke_13_7 : w_e_13.cell? ⟨wr0.heap.size, 7, none⟩ = some (.int .i64 t_11_leave) := by rw [← hw_e_13]; exact box_new _ _ _ 7 _ rfl
        have ke_13_8 : w_e_13.cell? ⟨wr0.heap.size, 8, none⟩ = some (.int .i64 t_11_arrive) := by rw [← hw_e_13]; exact box_new _ _ _ 8 _ rfl
        go_wp2_with fail
        clear ct_11_0 ct_11_1 ct_11_2 ct_11_3 ct_11_4 ct_11_5 ct_11_6 ct_11_7 ct_11_8
        have Hct_11_0__464 := Lib.hid ct_11_0__464
        replace ct_11_0__464 := cell_regrown ct_11_0__464
        have Hct_11_1__465 := Lib.hid ct_11_1__465
        replace ct_11_1__465 := cell_regrown ct_11_1__465
        have Hct_11_2__466 := Lib.hid ct_11_2__466
        replace ct_11_2__466 := cell_regrown ct_11_2__466
        have Hct_11_3__467 := Lib.hid ct_11_3__467
        replace ct_11_3__467 := cell_regrown ct_11_3__467
        have Hct_11_4__468 := Lib.hid ct_11_4__468
        replace ct_11_4__468 := cell_regrown ct_11_4__468
        have Hct_11_5__469 := Lib.hid ct_11_5__469
        replace ct_11_5__469 := cell_regrown ct_11_5__469
        have Hct_11_6__470 := Lib.hid ct_11_6__470
        replace ct_11_6__470 := cell_regrown ct_11_6__470
        have Hct_11_7__471 := Lib.hid ct_11_7__471
        replace ct_11_7__471 := cell_regrown ct_11_7__471
        have Hct_11_8__472 := Lib.hid ct_11_8__472
        replace ct_11_8__472 := cell_regrown ct_11_8__472
        have Hke_13_0 := Lib.hid ke_13_0
        replace ke_13_0 := cell_regrown ke_13_0
        have Hke_13_1 := Lib.hid ke_13_1
        replace ke_13_1 := cell_regrown ke_13_1
        have Hke_13_2 := Lib.hid ke_13_2
        replace ke_13_2 := cell_regrown ke_13_2
        have Hke_13_3 := Lib.hid ke_13_3
        replace ke_13_3 := cell_regrown ke_13_3
        have Hke_13_4 := Lib.hid ke_13_4
        replace ke_13_4 := cell_regrown ke_13_4
        have Hke_13_5 := Lib.hid ke_13_5
        replace ke_13_5 := cell_regrown ke_13_5
        have Hke_13_6 := Lib.hid ke_13_6
        replace ke_13_6 := cell_regrown ke_13_6
        have Hke_13_7 := Lib.hid ke_13_7
        replace ke_13_7 := cell_regrown ke_13_7
        have Hke_13_8 := Lib.hid ke_13_8
        replace ke_13_8 := cell_regrown ke_13_8
        replace H := bind_hid H
        obtain ⟨t_18, qt_18, H⟩ := H
        have nt_18 : ∀ d os, Calls Try.prog 18 #[.agg #[.int .i64 t_11_id, .int .i64 t_11_day, .int .i64 t_11_zone, .int .i64 t_11_grams, .int .i64 t_11_paid, .int .i64 t_11_from_, .int .i64 t_11_to_, .int .i64 t_11_leave, .int .i64 t_11_arrive]] (Go.Sort.grow (redrawn w_e_13 d) os) fun e w'' => e = .returned (.bool t_18) ∧ ∃ p : Regrown, w'' = Go.Sort.grow (redrawn w_e_13 p.d) p.os := fun d os => Calls.regrown_of (Go.Proofs.Ytlljmgphgmklcaa.GiIsCover.C ((Go.Proofs.Ytlljmgphgmklcaa.PCover.Cover.mk t_11_id t_11_day t_11_zone t_11_grams t_11_paid t_11_from_ t_11_to_ t_11_leave t_11_arrive))  _    qt_18)
        cases t_18 with
        | false =>
          replace H := let_hid H
          obtain ⟨t_19, ht_19, H⟩ := H
          obtain rfl : t_19 = true := ht_19.symm
          replace H := join_hid H
          replace H := ite_t H
          replace H := app_hid H
          refine wp_region_quiet_below (by kernel_rfl) (by kernel_rfl) ?_
          repeat (go_big_quiet_step (first | (go_at_call 18; exact nt_18 _ _)))
          refine wpQuiet_nil ?_
          intro Y6 hY6
          replace hY6 := below_class hY6
          clear nt_18
          replace ct_11_0__464 := Hct_11_0__464.out
          clear Hct_11_0__464
          replace ct_11_1__465 := Hct_11_1__465.out
          clear Hct_11_1__465
          replace ct_11_2__466 := Hct_11_2__466.out
          clear Hct_11_2__466
          replace ct_11_3__467 := Hct_11_3__467.out
          clear Hct_11_3__467
          replace ct_11_4__468 := Hct_11_4__468.out
          clear Hct_11_4__468
          replace ct_11_5__469 := Hct_11_5__469.out
          clear Hct_11_5__469
          replace ct_11_6__470 := Hct_11_6__470.out
          clear Hct_11_6__470
          replace ct_11_7__471 := Hct_11_7__471.out
          clear Hct_11_7__471
          replace ct_11_8__472 := Hct_11_8__472.out
          clear Hct_11_8__472
          replace ke_13_0 := Hke_13_0.out
          clear Hke_13_0
          replace ke_13_1 := Hke_13_1.out
          clear Hke_13_1
          replace ke_13_2 := Hke_13_2.out
          clear Hke_13_2
          replace ke_13_3 := Hke_13_3.out
          clear Hke_13_3
          replace ke_13_4 := Hke_13_4.out
          clear Hke_13_4
          replace ke_13_5 := Hke_13_5.out
          clear Hke_13_5
          replace ke_13_6 := Hke_13_6.out
          clear Hke_13_6
          replace ke_13_7 := Hke_13_7.out
          clear Hke_13_7
          replace ke_13_8 := Hke_13_8.out
          clear Hke_13_8
          have HBY6 := Lib.hid (Below.step HBw_e_13.out hY6)
          replace ct_11_0__464 := cell_below hY6 ct_11_0__464
          replace ct_11_1__465 := cell_below hY6 ct_11_1__465
          replace ct_11_2__466 := cell_below hY6 ct_11_2__466
          replace ct_11_3__467 := cell_below hY6 ct_11_3__467
          replace ct_11_4__468 := cell_below hY6 ct_11_4__468
          replace ct_11_5__469 := cell_below hY6 ct_11_5__469
          replace ct_11_6__470 := cell_below hY6 ct_11_6__470
          replace ct_11_7__471 := cell_below hY6 ct_11_7__471
          replace ct_11_8__472 := cell_below hY6 ct_11_8__472
          replace ke_13_0 := cell_below hY6 ke_13_0
          replace ke_13_1 := cell_below hY6 ke_13_1
          replace ke_13_2 := cell_below hY6 ke_13_2
          replace ke_13_3 := cell_below hY6 ke_13_3
          replace ke_13_4 := cell_below hY6 ke_13_4
          replace ke_13_5 := cell_below hY6 ke_13_5
          replace ke_13_6 := cell_below hY6 ke_13_6
          replace ke_13_7 := cell_below hY6 ke_13_7
          replace ke_13_8 := cell_below hY6 ke_13_8
          clear hY6
          replace H := ite_t H
          obtain rfl := ret_hid H
          go_wp2_with fail
          go_ret
          exact ⟨rfl, HBY6.out⟩
        | true =>
          replace H := let_hid H
          obtain ⟨t_19, ht_19, H⟩ := H
          obtain rfl : t_19 = false := ht_19.symm
          replace H := join_hid H
          replace H := ite_f H
          replace H := let_hid H
          obtain ⟨t_22, ht_22, H⟩ := H
          replace H := join_hid H
          cases t_22 with
          | false =>
            have nht_22 : ¬ (0 < k0) := by have := of_decide_eq_false ht_22; omega
            replace H := ite_f H
            replace H := app_hid H
            replace H := app_hid H
            refine wp_region_quiet_below (by kernel_rfl) (by kernel_rfl) ?_
            repeat (go_big_quiet_step (first | (go_at_call 18; exact nt_18 _ _)))
            refine wpQuiet_nil ?_
            intro Y6 hY6
            replace hY6 := below_class hY6
            clear nt_18
            replace ct_11_0__464 := Hct_11_0__464.out
            clear Hct_11_0__464
            replace ct_11_1__465 := Hct_11_1__465.out
            clear Hct_11_1__465
            replace ct_11_2__466 := Hct_11_2__466.out
            clear Hct_11_2__466
            replace ct_11_3__467 := Hct_11_3__467.out
            clear Hct_11_3__467
            replace ct_11_4__468 := Hct_11_4__468.out
            clear Hct_11_4__468
            replace ct_11_5__469 := Hct_11_5__469.out
            clear Hct_11_5__469
            replace ct_11_6__470 := Hct_11_6__470.out
            clear Hct_11_6__470
            replace ct_11_7__471 := Hct_11_7__471.out
            clear Hct_11_7__471
            replace ct_11_8__472 := Hct_11_8__472.out
            clear Hct_11_8__472
            replace ke_13_0 := Hke_13_0.out
            clear Hke_13_0
            replace ke_13_1 := Hke_13_1.out
            clear Hke_13_1
            replace ke_13_2 := Hke_13_2.out
            clear Hke_13_2
            replace ke_13_3 := Hke_13_3.out
            clear Hke_13_3
            replace ke_13_4 := Hke_13_4.out
            clear Hke_13_4
            replace ke_13_5 := Hke_13_5.out
            clear Hke_13_5
            replace ke_13_6 := Hke_13_6.out
            clear Hke_13_6
            replace ke_13_7 := Hke_13_7.out
            clear Hke_13_7
            replace ke_13_8 := Hke_13_8.out
            clear Hke_13_8
            have HBY6 := Lib.hid (Below.step HBw_e_13.out hY6)
            replace ct_11_0__464 := cell_below hY6 ct_11_0__464
            replace ct_11_1__465 := cell_below hY6 ct_11_1__465
            replace ct_11_2__466 := cell_below hY6 ct_11_2__466
            replace ct_11_3__467 := cell_below hY6 ct_11_3__467
            replace ct_11_4__468 := cell_below hY6 ct_11_4__468
            replace ct_11_5__469 := cell_below hY6 ct_11_5__469
            replace ct_11_6__470 := cell_below hY6 ct_11_6__470
            replace ct_11_7__471 := cell_below hY6 ct_11_7__471
            replace ct_11_8__472 := cell_below hY6 ct_11_8__472
            replace ke_13_0 := cell_below hY6 ke_13_0
            replace ke_13_1 := cell_below hY6 ke_13_1
            replace ke_13_2 := cell_below hY6 ke_13_2
            replace ke_13_3 := cell_below hY6 ke_13_3
            replace ke_13_4 := cell_below hY6 ke_13_4
            replace ke_13_5 := cell_below hY6 ke_13_5
            replace ke_13_6 := cell_below hY6 ke_13_6
            replace ke_13_7 := cell_below hY6 ke_13_7
            replace ke_13_8 := cell_below hY6 ke_13_8
            clear hY6
            replace H := ite_f H
            replace H := app_hid H
            go_wp2_with fail
            go_roundg m0
            case measure => omega
            case rel => exact ⟨k0 + 1, by omega, by go_num, H, HBY6⟩
          | true =>
            have nht_22 : 0 < k0 := by have := of_decide_eq_true ht_22; omega
            replace H := ite_t H
            replace H := bind_hid H
            obtain ⟨t_26, qt_26, H⟩ := H
            have nt_26 : ∀ d os, Calls Try.prog 87 #[.agg #[.int .i64 t_11_id, .int .i64 t_11_day, .int .i64 t_11_zone, .int .i64 t_11_grams, .int .i64 t_11_paid, .int .i64 t_11_from_, .int .i64 t_11_to_, .int .i64 t_11_leave, .int .i64 t_11_arrive]] (Go.Sort.grow (redrawn w_e_13 d) os) fun e w'' => e = .returned (.int .i64 t_26) ∧ ∃ p : Regrown, w'' = Go.Sort.grow (redrawn w_e_13 p.d) p.os := fun d os => Calls.regrown_of (Go.Proofs.Ytlljmgphgmklcaa.GiIdOfCover.C ((Go.Proofs.Ytlljmgphgmklcaa.PCover.Cover.mk t_11_id t_11_day t_11_zone t_11_grams t_11_paid t_11_from_ t_11_to_ t_11_leave t_11_arrive))  _    qt_26)
            replace H := let_hid H
            obtain ⟨t_30, ht_30, H⟩ := H
            replace H := idx_hid H
            obtain ⟨nt_31, yt_31, et_31, lt_31, gt_31, H⟩ := H
            subst et_31
            obtain ⟨t_31_id, t_31_day, t_31_zone, t_31_grams, t_31_paid, t_31_from_, t_31_to_, t_31_leave, t_31_arrive⟩ := yt_31
            replace H := unCover_hid H
            obtain ⟨ab_t_31, ao_t_31, zt_31, At_31, z_t_31, ct_31_0, ct_31_1, ct_31_2, ct_31_3, ct_31_4, ct_31_5, ct_31_6, ct_31_7, ct_31_8⟩ := Go.Proofs.Ytlljmgphgmklcaa.OCover.at_ M0.out lt_31
            obtain rfl := Option.some.inj (gt_31.out.symm.trans z_t_31)
            simp only [Option.some.injEq, Addr.mk.injEq] at At_31
            obtain ⟨rfl, rfl, _⟩ := At_31
            have ltt_31 := cell_lt ct_31_0
            replace ct_31_0 := cell_below HBw_e_13.out ct_31_0
            replace ct_31_1 := cell_below HBw_e_13.out ct_31_1
            replace ct_31_2 := cell_below HBw_e_13.out ct_31_2
            replace ct_31_3 := cell_below HBw_e_13.out ct_31_3
            replace ct_31_4 := cell_below HBw_e_13.out ct_31_4
            replace ct_31_5 := cell_below HBw_e_13.out ct_31_5
            replace ct_31_6 := cell_below HBw_e_13.out ct_31_6
            replace ct_31_7 := cell_below HBw_e_13.out ct_31_7
            replace ct_31_8 := cell_below HBw_e_13.out ct_31_8
            clear z_t_31
            have b0t_31 : (0 : Int) ≤ (nt_31 : Int) := by omega
            have b1t_31 : (nt_31 : Int) < ((list.length : Nat) : Int) := by omega
            have b2t_31 : ((nt_31 : Int)).toNat = nt_31 := by omega
            have Hct_31_0 := Lib.hid ct_31_0
            replace ct_31_0 := cell_regrown ct_31_0
            have Hct_31_1 := Lib.hid ct_31_1
            replace ct_31_1 := cell_regrown ct_31_1
            have Hct_31_2 := Lib.hid ct_31_2
            replace ct_31_2 := cell_regrown ct_31_2
            have Hct_31_3 := Lib.hid ct_31_3
            replace ct_31_3 := cell_regrown ct_31_3
            have Hct_31_4 := Lib.hid ct_31_4
            replace ct_31_4 := cell_regrown ct_31_4
            have Hct_31_5 := Lib.hid ct_31_5
            replace ct_31_5 := cell_regrown ct_31_5
            have Hct_31_6 := Lib.hid ct_31_6
            replace ct_31_6 := cell_regrown ct_31_6
            have Hct_31_7 := Lib.hid ct_31_7
            replace ct_31_7 := cell_regrown ct_31_7
            have Hct_31_8 := Lib.hid ct_31_8
            replace ct_31_8 := cell_regrown ct_31_8
            replace H := bind_hid H
            obtain ⟨t_33, qt_33, H⟩ := H
            have nt_33 : ∀ d os, Calls Try.prog 87 #[.agg #[.int .i64 t_31_id, .int .i64 t_31_day, .int .i64 t_31_zone, .int .i64 t_31_grams, .int .i64 t_31_paid, .int .i64 t_31_from_, .int .i64 t_31_to_, .int .i64 t_31_leave, .int .i64 t_31_arrive]] (Go.Sort.grow (redrawn w_e_13 d) os) fun e w'' => e = .returned (.int .i64 t_33) ∧ ∃ p : Regrown, w'' = Go.Sort.grow (redrawn w_e_13 p.d) p.os := fun d os => Calls.regrown_of (Go.Proofs.Ytlljmgphgmklcaa.GiIdOfCover.C ((Go.Proofs.Ytlljmgphgmklcaa.PCover.Cover.mk t_31_id t_31_day t_31_zone t_31_grams t_31_paid t_31_from_ t_31_to_ t_31_leave t_31_arrive))  _    qt_33)
            replace H := let_hid H
            obtain ⟨t_34, ht_34, H⟩ := H
            replace H := app_hid H
            replace H := app_hid H
            refine wp_region_quiet_below (by kernel_rfl) (by kernel_rfl) ?_
            repeat (go_big_quiet_step (first | (go_at_call 87; with_reducible exact nt_26 _ _) | (go_at_call 87; with_reducible exact nt_33 _ _) | (go_at_call 18; exact nt_18 _ _) | (go_at_call 87; exact nt_26 _ _) | (go_at_call 87; exact nt_33 _ _)))
            refine wpQuiet_nil ?_
            intro Y6 hY6
            replace hY6 := below_class hY6
            clear nt_18 nt_26 nt_33
            replace ct_11_0__464 := Hct_11_0__464.out
            clear Hct_11_0__464
            replace ct_11_1__465 := Hct_11_1__465.out
            clear Hct_11_1__465
            replace ct_11_2__466 := Hct_11_2__466.out
            clear Hct_11_2__466
            replace ct_11_3__467 := Hct_11_3__467.out
            clear Hct_11_3__467
            replace ct_11_4__468 := Hct_11_4__468.out
            clear Hct_11_4__468
            replace ct_11_5__469 := Hct_11_5__469.out
            clear Hct_11_5__469
            replace ct_11_6__470 := Hct_11_6__470.out
            clear Hct_11_6__470
            replace ct_11_7__471 := Hct_11_7__471.out
            clear Hct_11_7__471
            replace ct_11_8__472 := Hct_11_8__472.out
            clear Hct_11_8__472
            replace ke_13_0 := Hke_13_0.out
            clear Hke_13_0
            replace ke_13_1 := Hke_13_1.out
            clear Hke_13_1
            replace ke_13_2 := Hke_13_2.out
            clear Hke_13_2
            replace ke_13_3 := Hke_13_3.out
            clear Hke_13_3
            replace ke_13_4 := Hke_13_4.out
            clear Hke_13_4
            replace ke_13_5 := Hke_13_5.out
            clear Hke_13_5
            replace ke_13_6 := Hke_13_6.out
            clear Hke_13_6
            replace ke_13_7 := Hke_13_7.out
            clear Hke_13_7
            replace ke_13_8 := Hke_13_8.out
            clear Hke_13_8
            replace ct_31_0 := Hct_31_0.out
            clear Hct_31_0
            replace ct_31_1 := Hct_31_1.out
            clear Hct_31_1
            replace ct_31_2 := Hct_31_2.out
            clear Hct_31_2
            replace ct_31_3 := Hct_31_3.out
            clear Hct_31_3
            replace ct_31_4 := Hct_31_4.out
            clear Hct_31_4
            replace ct_31_5 := Hct_31_5.out
            clear Hct_31_5
            replace ct_31_6 := Hct_31_6.out
            clear Hct_31_6
            replace ct_31_7 := Hct_31_7.out
            clear Hct_31_7
            replace ct_31_8 := Hct_31_8.out
            clear Hct_31_8
            have HBY6 := Lib.hid (Below.step HBw_e_13.out hY6)
            replace ct_11_0__464 := cell_below hY6 ct_11_0__464
            replace ct_11_1__465 := cell_below hY6 ct_11_1__465
            replace ct_11_2__466 := cell_below hY6 ct_11_2__466
            replace ct_11_3__467 := cell_below hY6 ct_11_3__467
            replace ct_11_4__468 := cell_below hY6 ct_11_4__468
            replace ct_11_5__469 := cell_below hY6 ct_11_5__469
            replace ct_11_6__470 := cell_below hY6 ct_11_6__470
            replace ct_11_7__471 := cell_below hY6 ct_11_7__471
            replace ct_11_8__472 := cell_below hY6 ct_11_8__472
            replace ke_13_0 := cell_below hY6 ke_13_0
            replace ke_13_1 := cell_below hY6 ke_13_1
            replace ke_13_2 := cell_below hY6 ke_13_2
            replace ke_13_3 := cell_below hY6 ke_13_3
            replace ke_13_4 := cell_below hY6 ke_13_4
            replace ke_13_5 := cell_below hY6 ke_13_5
            replace ke_13_6 := cell_below hY6 ke_13_6
            replace ke_13_7 := cell_below hY6 ke_13_7
            replace ke_13_8 := cell_below hY6 ke_13_8
            replace ct_31_0 := cell_below hY6 ct_31_0
            replace ct_31_1 := cell_below hY6 ct_31_1
            replace ct_31_2 := cell_below hY6 ct_31_2
            replace ct_31_3 := cell_below hY6 ct_31_3
            replace ct_31_4 := cell_below hY6 ct_31_4
            replace ct_31_5 := cell_below hY6 ct_31_5
            replace ct_31_6 := cell_below hY6 ct_31_6
            replace ct_31_7 := cell_below hY6 ct_31_7
            replace ct_31_8 := cell_below hY6 ct_31_8
            clear hY6
            cases t_34 with
            | false =>
              replace H := ite_f H
              replace H := app_hid H
              go_wp2_with fail
              go_roundg m0
              case measure => omega
              case rel => exact ⟨k0 + 1, by omega, by go_num, H, HBY6⟩
            | true =>
              replace H := ite_t H
              obtain rfl := ret_hid H
              go_wp2_with fail
              go_ret
              exact ⟨rfl, HBY6.out⟩
  | true =>
    replace H := ite_t H
    obtain rfl := ret_hid H
    go_wp2_with fail
    go_ret
    exact ⟨rfl, HB.out⟩
end Go.Proofs.Ytlljmgphgmklcaa.GiAreByKeyCoverIntiIsCoveriIdOfCover

/- loop.example/g01062/impl.AreCovers as a plain function, and the contract of the program's: where the plain one has an answer, the program has it. Conditions: slices read as lists. -/
namespace Go.Proofs.Ytlljmgphgmklcaa.GiAreCovers
set_option linter.unusedVariables false
set_option linter.unusedSimpArgs false
open Go.RowKit
open Go.Proofs.Ytlljmgphgmklcaa.Rowed Go.Proofs.Ytlljmgphgmklcaa.Turn Go.Proofs.Ytlljmgphgmklcaa.Aid Go.Proofs.Ytlljmgphgmklcaa.GoP Go.Proofs.Ytlljmgphgmklcaa.GoM

def P (list : (List Go.Proofs.Ytlljmgphgmklcaa.PCover.Cover)) : Option (Bool) :=
  Option.bind (Go.Proofs.Ytlljmgphgmklcaa.GiAreByKeyCoverIntiIsCoveriIdOfCover.P list 10) fun (t_2 : Bool) =>
  some t_2

set_option maxRecDepth 100000 in
set_option maxHeartbeats 2000000 in
theorem C (list : (List Go.Proofs.Ytlljmgphgmklcaa.PCover.Cover)) (A0 : Option Addr) (c0 : Nat)  (w : World) (M0 : Hid (Cells w 9 A0 list.length (Go.Proofs.Ytlljmgphgmklcaa.PCover.flat list))) (N0 : Hid (list.length ≤ 9223372036854775807))  {r : Bool} (H : Hid (P list = some r)) :
    Calls Try.prog 22 #[.slice A0 list.length c0] w (Gives (.bool r) w) := by
  have HB := Lib.hid (Below.refl w.heap.size w)
  unfold P at H
  have N0o := N0.out
  go_enter Try.func22, Try.ntmps22
  replace H := bind_hid H
  obtain ⟨t_2, qt_2, H⟩ := H
  go_wp2_with fail
  go_at_call 86
  refine (Go.Proofs.Ytlljmgphgmklcaa.GiAreByKeyCoverIntiIsCoveriIdOfCover.C (list) (10) A0 c0 _   (Lib.hid (Cells.below M0.out HB.out)) N0 qt_2).mono ?_
  rintro e_t_2 wt_2 ⟨rfl, bt_2⟩
  have HBwt_2 := Lib.hid (Below.step HB.out bt_2)
  clear bt_2
  obtain rfl := ret_hid H
  go_wp2_with fail
  go_ret
  exact ⟨rfl, HBwt_2.out⟩
end Go.Proofs.Ytlljmgphgmklcaa.GiAreCovers

/- Plain words on the arrays of 10 numbers: the cells, a list of them as cells one after the other. No condition. -/
namespace Go.Proofs.Ytlljmgphgmklcaa.PIntA10
set_option linter.unusedVariables false
set_option maxRecDepth 100000

structure IntA10 where
  x0 : Int
  x1 : Int
  x2 : Int
  x3 : Int
  x4 : Int
  x5 : Int
  x6 : Int
  x7 : Int
  x8 : Int
  x9 : Int
def IntA10.cells (s : IntA10) : List Value := [.int .i64 s.x0, .int .i64 s.x1, .int .i64 s.x2, .int .i64 s.x3, .int .i64 s.x4, .int .i64 s.x5, .int .i64 s.x6, .int .i64 s.x7, .int .i64 s.x8, .int .i64 s.x9]
def IntA10.val (s : IntA10) : Value := .agg #[.int .i64 s.x0, .int .i64 s.x1, .int .i64 s.x2, .int .i64 s.x3, .int .i64 s.x4, .int .i64 s.x5, .int .i64 s.x6, .int .i64 s.x7, .int .i64 s.x8, .int .i64 s.x9]
def IntA10.list (s : IntA10) : List Int := [s.x0, s.x1, s.x2, s.x3, s.x4, s.x5, s.x6, s.x7, s.x8, s.x9]
/-- the array with v at j -/
def IntA10.put (s : IntA10) (j v : Int) : IntA10 := if j = 0 then ⟨v, s.x1, s.x2, s.x3, s.x4, s.x5, s.x6, s.x7, s.x8, s.x9⟩ else if j = 1 then ⟨s.x0, v, s.x2, s.x3, s.x4, s.x5, s.x6, s.x7, s.x8, s.x9⟩ else if j = 2 then ⟨s.x0, s.x1, v, s.x3, s.x4, s.x5, s.x6, s.x7, s.x8, s.x9⟩ else if j = 3 then ⟨s.x0, s.x1, s.x2, v, s.x4, s.x5, s.x6, s.x7, s.x8, s.x9⟩ else if j = 4 then ⟨s.x0, s.x1, s.x2, s.x3, v, s.x5, s.x6, s.x7, s.x8, s.x9⟩ else if j = 5 then ⟨s.x0, s.x1, s.x2, s.x3, s.x4, v, s.x6, s.x7, s.x8, s.x9⟩ else if j = 6 then ⟨s.x0, s.x1, s.x2, s.x3, s.x4, s.x5, v, s.x7, s.x8, s.x9⟩ else if j = 7 then ⟨s.x0, s.x1, s.x2, s.x3, s.x4, s.x5, s.x6, v, s.x8, s.x9⟩ else if j = 8 then ⟨s.x0, s.x1, s.x2, s.x3, s.x4, s.x5, s.x6, s.x7, v, s.x9⟩ else ⟨s.x0, s.x1, s.x2, s.x3, s.x4, s.x5, s.x6, s.x7, s.x8, v⟩
theorem cells_put (s : IntA10) {n : Nat} (h : n < 10) (v : Int) : s.cells.set n (.int .i64 v) = (s.put (n : Int) v).cells := by
  rcases n with _ | _ | _ | _ | _ | _ | _ | _ | _ | _ | n
  · rfl
  · rfl
  · rfl
  · rfl
  · rfl
  · rfl
  · rfl
  · rfl
  · rfl
  · rfl
  · omega
theorem cell_at {w : World} {b q : Nat} {x0 x1 x2 x3 x4 x5 x6 x7 x8 x9 y : Int} {n : Nat} (h0 : w.cell? ⟨b, q, none⟩ = some (.int .i64 x0)) (h1 : w.cell? ⟨b, q + 1, none⟩ = some (.int .i64 x1)) (h2 : w.cell? ⟨b, q + 2, none⟩ = some (.int .i64 x2)) (h3 : w.cell? ⟨b, q + 3, none⟩ = some (.int .i64 x3)) (h4 : w.cell? ⟨b, q + 4, none⟩ = some (.int .i64 x4)) (h5 : w.cell? ⟨b, q + 5, none⟩ = some (.int .i64 x5)) (h6 : w.cell? ⟨b, q + 6, none⟩ = some (.int .i64 x6)) (h7 : w.cell? ⟨b, q + 7, none⟩ = some (.int .i64 x7)) (h8 : w.cell? ⟨b, q + 8, none⟩ = some (.int .i64 x8)) (h9 : w.cell? ⟨b, q + 9, none⟩ = some (.int .i64 x9)) (g : [x0, x1, x2, x3, x4, x5, x6, x7, x8, x9][n]? = some y) : w.cell? ⟨b, q + n, none⟩ = some (.int .i64 y) := by
  rcases n with _ | _ | _ | _ | _ | _ | _ | _ | _ | _ | n
  · obtain rfl := Option.some.inj g; exact h0
  · obtain rfl := Option.some.inj g; exact h1
  · obtain rfl := Option.some.inj g; exact h2
  · obtain rfl := Option.some.inj g; exact h3
  · obtain rfl := Option.some.inj g; exact h4
  · obtain rfl := Option.some.inj g; exact h5
  · obtain rfl := Option.some.inj g; exact h6
  · obtain rfl := Option.some.inj g; exact h7
  · obtain rfl := Option.some.inj g; exact h8
  · obtain rfl := Option.some.inj g; exact h9
  · simp at g
/-- the cells of a list of arrays, one after the other -/
def flat (l : List IntA10) : List Value := l.flatMap IntA10.cells
theorem flat_nil : flat [] = [] := rfl
theorem flat_cons (s : IntA10) (l : List IntA10) : flat (s :: l) = s.cells ++ flat l := by simp [flat]
theorem flat_snoc (l : List IntA10) (s : IntA10) : flat (l ++ [s]) = flat l ++ s.cells := by simp [flat]
theorem flat_len (l : List IntA10) : (flat l).length = l.length * 10 := by
  induction l with
  | nil => rfl
  | cons s l ih => rw [flat_cons, List.length_append, ih]; simp [IntA10.cells]; omega
theorem flat_at : ∀ (l : List IntA10) (k : Nat) (s : IntA10), l[k]? = some s → ∀ j, j < 10 → (flat l)[k * 10 + j]? = s.cells[j]?
  | [], k, s, h, _, _ => by simp at h
  | r :: l, 0, s, h, j, hj => by
    obtain rfl : r = s := by simpa using h
    rw [flat_cons, List.getElem?_append_left (by simp [IntA10.cells]; omega)]; simp
  | r :: l, k + 1, s, h, j, hj => by
    rw [flat_cons, List.getElem?_append_right (by simp [IntA10.cells]; omega), show (k + 1) * 10 + j - r.cells.length = k * 10 + j by simp [IntA10.cells]; omega]
    exact flat_at l k s (by simpa using h) j hj
end Go.Proofs.Ytlljmgphgmklcaa.PIntA10

/- A record IntA10 opened into its fields. No condition. -/
namespace Go.Proofs.Ytlljmgphgmklcaa.GoP
set_option linter.unusedVariables false
open Go.RowKit
def unIntA10 {ρ : Type} (s : Go.Proofs.Ytlljmgphgmklcaa.PIntA10.IntA10) (f : Int → Int → Int → Int → Int → Int → Int → Int → Int → Int → Option ρ) : Option ρ := f s.x0 s.x1 s.x2 s.x3 s.x4 s.x5 s.x6 s.x7 s.x8 s.x9
theorem unIntA10_hid {ρ : Type} {x0 : Int} {x1 : Int} {x2 : Int} {x3 : Int} {x4 : Int} {x5 : Int} {x6 : Int} {x7 : Int} {x8 : Int} {x9 : Int} {f : Int → Int → Int → Int → Int → Int → Int → Int → Int → Int → Option ρ} {r : ρ} (H : Hid (unIntA10 ⟨x0, x1, x2, x3, x4, x5, x6, x7, x8, x9⟩ f = some r)) : Hid (f x0 x1 x2 x3 x4 x5 x6 x7 x8 x9 = some r) := H
end Go.Proofs.Ytlljmgphgmklcaa.GoP

/- Words on arrays that are variables, and on jumps back to a label. No condition but those of each theorem. -/
namespace Go.Proofs.Ytlljmgphgmklcaa.GoA
set_option linter.unusedVariables false
open Go.RowKit
open Go.Proofs.Ytlljmgphgmklcaa.HelpInt

/-- the number at a place of an array's list -/
def nth (l : List Int) (j : Nat) : Int := l.getD j 0
theorem row_at {w : World} {b T n c g : Nat} {l : List Int} (h : w.ownsRow b T 1 (.slice (some ⟨g, 0, none⟩) n c) n (iv l)) (hl : l.length = n) (j : Nat) (hj : j < n) : w.cell? ⟨g, j, none⟩ = some (.int .i64 (nth l j)) := by
  unfold nth
  have hc := h.cells rfl j (.int .i64 (l.getD j 0)) (by
    rw [iv_at, List.getD_eq_getElem?_getD, List.getElem?_eq_getElem (show j < l.length by omega)]; rfl)
  rw [add_none] at hc
  simpa using hc

/-- what holds at a jump to a label: a relation that bears a number, which each pass from the label to the next jump lowers -/
def Jumps (P : Program) (rest : Code) (l : Nat) (Q : Exit → Act → World → Prop) (a : Act) (w : World) (m : Nat) : Prop :=
  ∃ J : Nat → Act → World → Prop, J m a w ∧ ∀ m a w, J m a w → rest.wp P (Exit.jump l (Handed J m) Q) a w

theorem jump_mono {l : Nat} {J J' : Act → World → Prop} {Q : Exit → Act → World → Prop} (h : ∀ a w, J a w → J' a w) : ∀ e a w, Exit.jump l J Q e a w → Exit.jump l J' Q e a w := by
  intro e a w he
  cases e with
  | goto l' => exact ⟨he.1, h _ _ he.2⟩
  | _ => exact he

theorem wp_scope_goto {P : Program} {A rest : Code} {l : Nat} {Q : Exit → Act → World → Prop} {a : Act} {w : World} (hf : findLabel (Code.seq A (Code.seq (Code.label l) rest)) l = some (Code.seq Code.skip rest))
    (first : ∀ K : Act → World → Prop, (∀ a w, (∃ m, Jumps P rest l Q a w m) → K a w) → A.wp P (Exit.then K (fun _ _ _ => False)) a w) :
    (Code.scope (Code.seq A (Code.seq (Code.label l) rest))).wp P Q a w := by
  have pass : ∀ m a w, Jumps P rest l Q a w m → rest.wp P (Exit.jump l (fun a' w' => ∃ m', m' < m ∧ Jumps P rest l Q a' w' m') Q) a w := by
    rintro m a w ⟨J, hJ, hp⟩
    refine wp_mono (hp m a w hJ) (jump_mono ?_)
    rintro a' w' ⟨m', hlt, hJ'⟩
    exact ⟨m', hlt, J, hJ', hp⟩
  refine wp_scope_jumps l (fun a w => ∃ m, Jumps P rest l Q a w m) (fun a w => leastOf (Jumps P rest l Q a w)) hf ?_ ?_
  · refine wp_seq (wp_mono (first _ fun _ _ h => h) ?_)
    intro e a1 w1 he
    cases e with
    | normal =>
      obtain ⟨m, hm⟩ := he
      refine wp_seq (wp_label ?_)
      refine wp_mono (pass m a1 w1 hm) (jump_mono ?_)
      rintro a' w' ⟨m', _, h'⟩
      exact ⟨m', h'⟩
    | _ => exact he.elim
  · intro a1 w1 h1
    refine wp_seq (wp_skip ?_)
    have hl := (leastOf_spec h1).1
    refine wp_mono (pass _ a1 w1 hl) (jump_mono ?_)
    rintro a' w' ⟨m', hlt, h'⟩
    exact ⟨⟨m', h'⟩, Nat.lt_of_le_of_lt ((leastOf_spec ⟨m', h'⟩).2 m' h') hlt⟩

/-- the frame with the slots that are marked put to new values -/
def over (u : Nat → Value) : List Bool → Nat → List Value → List Value
  | true :: bs, i, _ :: l => u i :: over u bs (i + 1) l
  | false :: bs, i, v :: l => v :: over u bs (i + 1) l
  | [], _, l => l
  | _ :: _, _, [] => []
theorem over_self (bs : List Bool) : ∀ (i : Nat) (l : List Value) (u : Nat → Value), (∀ j, j < l.length → u (i + j) = l.getD j undef) → over u bs i l = l := by
  induction bs with
  | nil => intro i l u h; cases l <;> rfl
  | cons b bs ih =>
    intro i l u h
    cases l with
    | nil => cases b <;> rfl
    | cons v l =>
      have h0 := h 0 (by simp)
      have ht := ih (i + 1) l u (fun j hj => by
        have := h (j + 1) (by simp; omega)
        rw [show i + 1 + j = i + (j + 1) by omega, this]; rfl)
      cases b
      · show v :: over u bs (i + 1) l = _; rw [ht]
      · show u i :: over u bs (i + 1) l = _; rw [ht]
        have : u i = v := h0
        rw [this]
/-- the pass from the label, as the walk wants it: the frame stands at the label the first time; the marked slots change -/
theorem jumps_intro {P : Program} {rest : Code} {l : Nat} {Q : Exit → Act → World → Prop} {ts : List Value} {de : List Deferred} {w : World} (bs : List Bool) (m : Nat) (R : Nat → (Nat → Value) → World → Prop)
    (start : R m (fun i => ts.getD i undef) w)
    (pass : ∀ m u w, R m u w → ∀ J : Nat → Act → World → Prop, (∀ m u w a, a = ⟨(over u bs 0 ts).toArray, de⟩ → R m u w → J m a w) → rest.wp P (Exit.jump l (Handed J m) Q) ⟨(over u bs 0 ts).toArray, de⟩ w) :
    ∃ m, Jumps P rest l Q ⟨ts.toArray, de⟩ w m := by
  refine ⟨m, fun m a w => ∃ u, a = ⟨(over u bs 0 ts).toArray, de⟩ ∧ R m u w, ⟨fun i => ts.getD i undef, ?_, start⟩, ?_⟩
  · rw [over_self bs 0 ts _ (fun j _ => by rw [Nat.zero_add])]
  · rintro m a w ⟨u, rfl, hR⟩
    exact pass m u w hR _ fun m u w a e h => ⟨u, e, h⟩
theorem handed_goto {J : Nat → Act → World → Prop} {R : Nat → (Nat → Value) → World → Prop} {bs : List Bool} {ts ts' : List Value} {de : List Deferred} {w : World} {m : Nat}
    (hJ : ∀ m u w a, a = ⟨(over u bs 0 ts).toArray, de⟩ → R m u w → J m a w) (m' : Nat) (hlt : m' < m) (he : ts' = over (fun i => ts'.getD i undef) bs 0 ts) (hR : R m' (fun i => ts'.getD i undef) w) : Handed J m ⟨ts'.toArray, de⟩ w :=
  Handed.intro m' hlt (hJ m' _ w _ (congrArg (fun z => (⟨z.toArray, de⟩ : Act)) he) hR)
end Go.Proofs.Ytlljmgphgmklcaa.GoA

/- loop.example/g01062/impl.filledWith as a plain function, and the contract of the program's: where the plain one has an answer, the program has it. Conditions: slices read as lists. -/
namespace Go.Proofs.Ytlljmgphgmklcaa.GiFilledWith
set_option linter.unusedVariables false
set_option linter.unusedSimpArgs false
open Go.RowKit
open Go.Proofs.Ytlljmgphgmklcaa.Rowed Go.Proofs.Ytlljmgphgmklcaa.Turn Go.Proofs.Ytlljmgphgmklcaa.Aid Go.Proofs.Ytlljmgphgmklcaa.GoP Go.Proofs.Ytlljmgphgmklcaa.GoM

def l0 (minute : Int) (k0 : Nat) (s : (List Int)) (nx0 bk0 : (List Int) → Option (Go.Proofs.Ytlljmgphgmklcaa.PIntA10.IntA10)) : Option (Go.Proofs.Ytlljmgphgmklcaa.PIntA10.IntA10) :=
  letK s fun minutes_3l0 =>
  Option.bind (idx minutes_3l0 (k0 : Int)) fun (yt_8 : Int) =>
  letK (minutes_3l0.set k0 minute) fun (l9_9 : (List Int)) =>
  appK nx0 (l9_9)

def e0  (s : (List Int)) : Option (Go.Proofs.Ytlljmgphgmklcaa.PIntA10.IntA10) :=
  letK s fun minutes_3l0 =>
  some (Go.Proofs.Ytlljmgphgmklcaa.PIntA10.IntA10.mk (Go.Proofs.Ytlljmgphgmklcaa.GoA.nth minutes_3l0 0) (Go.Proofs.Ytlljmgphgmklcaa.GoA.nth minutes_3l0 1) (Go.Proofs.Ytlljmgphgmklcaa.GoA.nth minutes_3l0 2) (Go.Proofs.Ytlljmgphgmklcaa.GoA.nth minutes_3l0 3) (Go.Proofs.Ytlljmgphgmklcaa.GoA.nth minutes_3l0 4) (Go.Proofs.Ytlljmgphgmklcaa.GoA.nth minutes_3l0 5) (Go.Proofs.Ytlljmgphgmklcaa.GoA.nth minutes_3l0 6) (Go.Proofs.Ytlljmgphgmklcaa.GoA.nth minutes_3l0 7) (Go.Proofs.Ytlljmgphgmklcaa.GoA.nth minutes_3l0 8) (Go.Proofs.Ytlljmgphgmklcaa.GoA.nth minutes_3l0 9))

def P (minute : Int) : Option (Go.Proofs.Ytlljmgphgmklcaa.PIntA10.IntA10) :=
  letK ([0, 0, 0, 0, 0, 0, 0, 0, 0, 0]) fun (vminutes_1 : (List Int)) =>
  cntK (l0 minute) (10) 0 (vminutes_1) (e0 )

set_option maxRecDepth 100000 in
set_option maxHeartbeats 2000000 in
theorem C (minute : Int)   (w : World)   {r : Go.Proofs.Ytlljmgphgmklcaa.PIntA10.IntA10} (H : Hid (P minute = some r)) :
    Calls Try.prog 154 #[.int .i64 minute] w (Gives ((Go.Proofs.Ytlljmgphgmklcaa.PIntA10.IntA10.val r)) w) := by
  have HB := Lib.hid (Below.refl w.heap.size w)
  unfold P at H
  go_enter Try.func154, Try.ntmps154
  obtain ⟨w_t_0, hw_t_0⟩ : ∃ x, w.alloc (.cells #[.int .i64 0, .int .i64 0, .int .i64 0, .int .i64 0, .int .i64 0, .int .i64 0, .int .i64 0, .int .i64 0, .int .i64 0, .int .i64 0] 121) = x := ⟨_, rfl⟩
  have bw_t_0 : Below w.heap.size w w_t_0 := by rw [← hw_t_0]; exact (Below.refl _ _).alloc (Nat.le_refl _) _
  have HBw_t_0 := Lib.hid (Below.step HB.out bw_t_0)
  clear bw_t_0
  have kt_0_0 : w_t_0.cell? ⟨w.heap.size, 0, none⟩ = some (.int .i64 0) := by rw [← hw_t_0]; exact box_new _ _ _ 0 _ rfl
  have kt_0_1 : w_t_0.cell? ⟨w.heap.size, 1, none⟩ = some (.int .i64 0) := by rw [← hw_t_0]; exact box_new _ _ _ 1 _ rfl
  have kt_0_2 : w_t_0.cell? ⟨w.heap.size, 2, none⟩ = some (.int .i64 0) := by rw [← hw_t_0]; exact box_new _ _ _ 2 _ rfl
  have kt_0_3 : w_t_0.cell? ⟨w.heap.size, 3, none⟩ = some (.int .i64 0) := by rw [← hw_t_0]; exact box_new _ _ _ 3 _ rfl
  have kt_0_4 : w_t_0.cell? ⟨w.heap.size, 4, none⟩ = some (.int .i64 0) := by rw [← hw_t_0]; exact box_new _ _ _ 4 _ rfl
  have kt_0_5 : w_t_0.cell? ⟨w.heap.size, 5, none⟩ = some (.int .i64 0) := by rw [← hw_t_0]; exact box_new _ _ _ 5 _ rfl
  have kt_0_6 : w_t_0.cell? ⟨w.heap.size, 6, none⟩ = some (.int .i64 0) := by rw [← hw_t_0]; exact box_new _ _ _ 6 _ rfl
  have kt_0_7 : w_t_0.cell? ⟨w.heap.size, 7, none⟩ = some (.int .i64 0) := by rw [← hw_t_0]; exact box_new _ _ _ 7 _ rfl
  have kt_0_8 : w_t_0.cell? ⟨w.heap.size, 8, none⟩ = some (.int .i64 0) := by rw [← hw_t_0]; exact box_new _ _ _ 8 _ rfl
  have kt_0_9 : w_t_0.cell? ⟨w.heap.size, 9, none⟩ = some (.int .i64 0) := by rw [← hw_t_0]; exact box_new _ _ _ 9 _ rfl
  have Ot_0 : Hid (w_t_0.ownsRow w.heap.size 121 10 (.slice (some ⟨w.heap.size, 0, none⟩) 1 1) 1 [.int .i64 0, .int .i64 0, .int .i64 0, .int .i64 0, .int .i64 0, .int .i64 0, .int .i64 0, .int .i64 0, .int .i64 0, .int .i64 0]) := Lib.hid (by rw [← hw_t_0]; exact own_laid (n := 1) HB.out.size rfl rfl (by unfold maxLen; omega))
  replace H := let_hid H
  obtain ⟨vminutes_1, hvminutes_1, H⟩ := H
  obtain ⟨w_minutes_1, hw_minutes_1⟩ : ∃ x, w_t_0.alloc (.cells #[.int .i64 0, .int .i64 0, .int .i64 0, .int .i64 0, .int .i64 0, .int .i64 0, .int .i64 0, .int .i64 0, .int .i64 0, .int .i64 0] 121) = x := ⟨_, rfl⟩
  have bw_minutes_1 : Below w_t_0.heap.size w_t_0 w_minutes_1 := by rw [← hw_minutes_1]; exact (Below.refl _ _).alloc (Nat.le_refl _) _
  have hs_minutes_1 := HBw_t_0.out.size
  have nminutes_1 : vminutes_1.length = 10 := by rw [← hvminutes_1]; rfl
  have Ominutes_1 : Hid (w_minutes_1.ownsRow w.heap.size 121 1 (.slice (some ⟨w_t_0.heap.size, 0, none⟩) 10 10) 10 (Go.Proofs.Ytlljmgphgmklcaa.HelpInt.iv vminutes_1)) := by
    rw [← hw_minutes_1, ← hvminutes_1]
    have e_ : ([.int .i64 0, .int .i64 0, .int .i64 0, .int .i64 0, .int .i64 0, .int .i64 0, .int .i64 0, .int .i64 0, .int .i64 0, .int .i64 0] : List Value) = Go.Proofs.Ytlljmgphgmklcaa.HelpInt.iv [0, 0, 0, 0, 0, 0, 0, 0, 0, 0] := rfl
    exact Lib.hid (own_laid (n := 10) hs_minutes_1 e_ rfl (by unfold maxLen; omega))
  clear hs_minutes_1
  have hhminutes_1 := Lib.hid hvminutes_1
  clear hvminutes_1
  replace nminutes_1 := Lib.hid nminutes_1
  have Dminutes_1_t_0 := Lib.hid (apart_box kt_0_0)
  have HBw_minutes_1 := Lib.hid (Below.step HBw_t_0.out bw_minutes_1)
  have kt_0_0__473 := cell_below bw_minutes_1 kt_0_0
  have kt_0_1__474 := cell_below bw_minutes_1 kt_0_1
  have kt_0_2__475 := cell_below bw_minutes_1 kt_0_2
  have kt_0_3__476 := cell_below bw_minutes_1 kt_0_3
  have kt_0_4__477 := cell_below bw_minutes_1 kt_0_4
  have kt_0_5__478 := cell_below bw_minutes_1 kt_0_5
  have kt_0_6__479 := cell_below bw_minutes_1 kt_0_6
  have kt_0_7__480 := cell_below bw_minutes_1 kt_0_7
  have kt_0_8__481 := cell_below bw_minutes_1 kt_0_8
  have kt_0_9__482 := cell_below bw_minutes_1 kt_0_9
  replace Ot_0 := Lib.hid (own_below Ot_0.out bw_minutes_1)
  clear bw_minutes_1
  go_wp2_with fail
  clear kt_0_0 kt_0_1 kt_0_2 kt_0_3 kt_0_4 kt_0_5 kt_0_6 kt_0_7 kt_0_8 kt_0_9
  go_wp2_with fail
  go_loopg [5] (10) (fun m_ v5_ wr => ∃ (k0 : Nat) (minutes_3l0 : (List Int)), k0 + m_ = 10 ∧ v5_ = .int .i64 (k0 : Int) ∧ Hid (cntK (l0 minute) m_ k0 (minutes_3l0) (e0 ) = some r) ∧ Hid (Below w.heap.size w wr) ∧ wr.cell? ⟨w.heap.size, 0, none⟩ = some (.int .i64 0) ∧ wr.cell? ⟨w.heap.size, 1, none⟩ = some (.int .i64 0) ∧ wr.cell? ⟨w.heap.size, 2, none⟩ = some (.int .i64 0) ∧ wr.cell? ⟨w.heap.size, 3, none⟩ = some (.int .i64 0) ∧ wr.cell? ⟨w.heap.size, 4, none⟩ = some (.int .i64 0) ∧ wr.cell? ⟨w.heap.size, 5, none⟩ = some (.int .i64 0) ∧ wr.cell? ⟨w.heap.size, 6, none⟩ = some (.int .i64 0) ∧ wr.cell? ⟨w.heap.size, 7, none⟩ = some (.int .i64 0) ∧ wr.cell? ⟨w.heap.size, 8, none⟩ = some (.int .i64 0) ∧ wr.cell? ⟨w.heap.size, 9, none⟩ = some (.int .i64 0) ∧ Hid (wr.ownsRow w.heap.size 121 10 (.slice (some ⟨w.heap.size, 0, none⟩) 1 1) 1 [.int .i64 0, .int .i64 0, .int .i64 0, .int .i64 0, .int .i64 0, .int .i64 0, .int .i64 0, .int .i64 0, .int .i64 0, .int .i64 0]) ∧ Hid (wr.ownsRow w.heap.size 121 1 (.slice (some ⟨w_t_0.heap.size, 0, none⟩) 10 10) 10 (Go.Proofs.Ytlljmgphgmklcaa.HelpInt.iv minutes_3l0)) ∧ Hid (minutes_3l0.length = 10) ∧ Hid (Apart (some ⟨w_t_0.heap.size, 0, none⟩) (some ⟨w.heap.size, 0, none⟩)))
  case atStart => exact ⟨0, _, by omega, rfl, H, HBw_minutes_1, kt_0_0__473, kt_0_1__474, kt_0_2__475, kt_0_3__476, kt_0_4__477, kt_0_5__478, kt_0_6__479, kt_0_7__480, kt_0_8__481, kt_0_9__482, Ot_0, Ominutes_1, Lib.hid (nminutes_1.out), Lib.hid Dminutes_1_t_0.out⟩
  case round =>
    obtain ⟨k0, minutes_3l0, hkm0, rfl, H, HBwr0, kt_0_0__473, kt_0_1__474, kt_0_2__475, kt_0_3__476, kt_0_4__477, kt_0_5__478, kt_0_6__479, kt_0_7__480, kt_0_8__481, kt_0_9__482, Ot_0, Ominutes_3l0, hnminutes_3l0, Dminutes_3l0_t_0⟩ := hrel
    rename World => wr0
    cases gk with
    | zero =>
      obtain rfl : k0 = 10 := by omega
      have hc0 : decide (((10 : Nat) : Int) < ((10 : Nat) : Int)) = false := by simp
      replace H := cnt_zero H
      unfold e0 at H
      replace H := let_hid H
      obtain ⟨_, rfl, H⟩ := H
      have ka_483 : wr0.cell? ⟨w_t_0.heap.size, 0, none⟩ = some (.int .i64 (Go.Proofs.Ytlljmgphgmklcaa.GoA.nth minutes_3l0 0)) := Go.Proofs.Ytlljmgphgmklcaa.GoA.row_at Ominutes_3l0.out hnminutes_3l0.out 0 (by omega)
      have ka_484 : wr0.cell? ⟨w_t_0.heap.size, 1, none⟩ = some (.int .i64 (Go.Proofs.Ytlljmgphgmklcaa.GoA.nth minutes_3l0 1)) := Go.Proofs.Ytlljmgphgmklcaa.GoA.row_at Ominutes_3l0.out hnminutes_3l0.out 1 (by omega)
      have ka_485 : wr0.cell? ⟨w_t_0.heap.size, 2, none⟩ = some (.int .i64 (Go.Proofs.Ytlljmgphgmklcaa.GoA.nth minutes_3l0 2)) := Go.Proofs.Ytlljmgphgmklcaa.GoA.row_at Ominutes_3l0.out hnminutes_3l0.out 2 (by omega)
      have ka_486 : wr0.cell? ⟨w_t_0.heap.size, 3, none⟩ = some (.int .i64 (Go.Proofs.Ytlljmgphgmklcaa.GoA.nth minutes_3l0 3)) := Go.Proofs.Ytlljmgphgmklcaa.GoA.row_at Ominutes_3l0.out hnminutes_3l0.out 3 (by omega)
      have ka_487 : wr0.cell? ⟨w_t_0.heap.size, 4, none⟩ = some (.int .i64 (Go.Proofs.Ytlljmgphgmklcaa.GoA.nth minutes_3l0 4)) := Go.Proofs.Ytlljmgphgmklcaa.GoA.row_at Ominutes_3l0.out hnminutes_3l0.out 4 (by omega)
      have ka_488 : wr0.cell? ⟨w_t_0.heap.size, 5, none⟩ = some (.int .i64 (Go.Proofs.Ytlljmgphgmklcaa.GoA.nth minutes_3l0 5)) := Go.Proofs.Ytlljmgphgmklcaa.GoA.row_at Ominutes_3l0.out hnminutes_3l0.out 5 (by omega)
      have ka_489 : wr0.cell? ⟨w_t_0.heap.size, 6, none⟩ = some (.int .i64 (Go.Proofs.Ytlljmgphgmklcaa.GoA.nth minutes_3l0 6)) := Go.Proofs.Ytlljmgphgmklcaa.GoA.row_at Ominutes_3l0.out hnminutes_3l0.out 6 (by omega)
      have ka_490 : wr0.cell? ⟨w_t_0.heap.size, 7, none⟩ = some (.int .i64 (Go.Proofs.Ytlljmgphgmklcaa.GoA.nth minutes_3l0 7)) := Go.Proofs.Ytlljmgphgmklcaa.GoA.row_at Ominutes_3l0.out hnminutes_3l0.out 7 (by omega)
      have ka_491 : wr0.cell? ⟨w_t_0.heap.size, 8, none⟩ = some (.int .i64 (Go.Proofs.Ytlljmgphgmklcaa.GoA.nth minutes_3l0 8)) := Go.Proofs.Ytlljmgphgmklcaa.GoA.row_at Ominutes_3l0.out hnminutes_3l0.out 8 (by omega)
      have ka_492 : wr0.cell? ⟨w_t_0.heap.size, 9, none⟩ = some (.int .i64 (Go.Proofs.Ytlljmgphgmklcaa.GoA.nth minutes_3l0 9)) := Go.Proofs.Ytlljmgphgmklcaa.GoA.row_at Ominutes_3l0.out hnminutes_3l0.out 9 (by omega)
      obtain ⟨wb13_13, hwb13_13⟩ : ∃ x, ((((((((((wr0).setCell ⟨w.heap.size, 0, none⟩ (.int .i64 (Go.Proofs.Ytlljmgphgmklcaa.GoA.nth minutes_3l0 0))).setCell ⟨w.heap.size, 1, none⟩ (.int .i64 (Go.Proofs.Ytlljmgphgmklcaa.GoA.nth minutes_3l0 1))).setCell ⟨w.heap.size, 2, none⟩ (.int .i64 (Go.Proofs.Ytlljmgphgmklcaa.GoA.nth minutes_3l0 2))).setCell ⟨w.heap.size, 3, none⟩ (.int .i64 (Go.Proofs.Ytlljmgphgmklcaa.GoA.nth minutes_3l0 3))).setCell ⟨w.heap.size, 4, none⟩ (.int .i64 (Go.Proofs.Ytlljmgphgmklcaa.GoA.nth minutes_3l0 4))).setCell ⟨w.heap.size, 5, none⟩ (.int .i64 (Go.Proofs.Ytlljmgphgmklcaa.GoA.nth minutes_3l0 5))).setCell ⟨w.heap.size, 6, none⟩ (.int .i64 (Go.Proofs.Ytlljmgphgmklcaa.GoA.nth minutes_3l0 6))).setCell ⟨w.heap.size, 7, none⟩ (.int .i64 (Go.Proofs.Ytlljmgphgmklcaa.GoA.nth minutes_3l0 7))).setCell ⟨w.heap.size, 8, none⟩ (.int .i64 (Go.Proofs.Ytlljmgphgmklcaa.GoA.nth minutes_3l0 8))).setCell ⟨w.heap.size, 9, none⟩ (.int .i64 (Go.Proofs.Ytlljmgphgmklcaa.GoA.nth minutes_3l0 9)) = x := ⟨_, rfl⟩
      have z0b13_13 := Ot_0.out.frozenAt 0
      have z1b13_13 := Ot_0.out.frozenAt 1
      have z2b13_13 := Ot_0.out.frozenAt 2
      have z3b13_13 := Ot_0.out.frozenAt 3
      have z4b13_13 := Ot_0.out.frozenAt 4
      have z5b13_13 := Ot_0.out.frozenAt 5
      have z6b13_13 := Ot_0.out.frozenAt 6
      have z7b13_13 := Ot_0.out.frozenAt 7
      have z8b13_13 := Ot_0.out.frozenAt 8
      have z9b13_13 := Ot_0.out.frozenAt 9
      have Sb13_13 := Lib.hid (own_stores [(0, .int .i64 (Go.Proofs.Ytlljmgphgmklcaa.GoA.nth minutes_3l0 0)), (1, .int .i64 (Go.Proofs.Ytlljmgphgmklcaa.GoA.nth minutes_3l0 1)), (2, .int .i64 (Go.Proofs.Ytlljmgphgmklcaa.GoA.nth minutes_3l0 2)), (3, .int .i64 (Go.Proofs.Ytlljmgphgmklcaa.GoA.nth minutes_3l0 3)), (4, .int .i64 (Go.Proofs.Ytlljmgphgmklcaa.GoA.nth minutes_3l0 4)), (5, .int .i64 (Go.Proofs.Ytlljmgphgmklcaa.GoA.nth minutes_3l0 5)), (6, .int .i64 (Go.Proofs.Ytlljmgphgmklcaa.GoA.nth minutes_3l0 6)), (7, .int .i64 (Go.Proofs.Ytlljmgphgmklcaa.GoA.nth minutes_3l0 7)), (8, .int .i64 (Go.Proofs.Ytlljmgphgmklcaa.GoA.nth minutes_3l0 8)), (9, .int .i64 (Go.Proofs.Ytlljmgphgmklcaa.GoA.nth minutes_3l0 9))] Ot_0.out)
      have Pb13_13 : Hid (wb13_13.ownsRow w.heap.size 121 10 (.slice (some ⟨w.heap.size, 0, none⟩) 1 1) 1 [.int .i64 (Go.Proofs.Ytlljmgphgmklcaa.GoA.nth minutes_3l0 0), .int .i64 (Go.Proofs.Ytlljmgphgmklcaa.GoA.nth minutes_3l0 1), .int .i64 (Go.Proofs.Ytlljmgphgmklcaa.GoA.nth minutes_3l0 2), .int .i64 (Go.Proofs.Ytlljmgphgmklcaa.GoA.nth minutes_3l0 3), .int .i64 (Go.Proofs.Ytlljmgphgmklcaa.GoA.nth minutes_3l0 4), .int .i64 (Go.Proofs.Ytlljmgphgmklcaa.GoA.nth minutes_3l0 5), .int .i64 (Go.Proofs.Ytlljmgphgmklcaa.GoA.nth minutes_3l0 6), .int .i64 (Go.Proofs.Ytlljmgphgmklcaa.GoA.nth minutes_3l0 7), .int .i64 (Go.Proofs.Ytlljmgphgmklcaa.GoA.nth minutes_3l0 8), .int .i64 (Go.Proofs.Ytlljmgphgmklcaa.GoA.nth minutes_3l0 9)]) := Lib.hid (by rw [← hwb13_13]; exact Sb13_13.out.1)
      have Gb13_13 : Hid (wr0.grownBy wb13_13 (Value.slice (some ⟨w.heap.size, 0, none⟩) 1 1).ownBlock) := Lib.hid (by rw [← hwb13_13]; exact Sb13_13.out.2)
      have HBwb13_13 := Lib.hid (HBwr0.out.grown Gb13_13.out HBwr0.out.size (fun q hq => (Ot_0.out.lt q hq).1))
      clear Sb13_13
      replace Ominutes_3l0 := Lib.hid (own_other Ominutes_3l0.out Gb13_13.out (Apart.symm Dminutes_3l0_t_0.out))
      clear Ot_0 Gb13_13
      have kt_0_0__493 : wb13_13.cell? ⟨w.heap.size, 0, none⟩ = some (.int .i64 (Go.Proofs.Ytlljmgphgmklcaa.GoA.nth minutes_3l0 0)) := Pb13_13.out.cells rfl 0 _ rfl
      have kt_0_1__494 : wb13_13.cell? ⟨w.heap.size, 1, none⟩ = some (.int .i64 (Go.Proofs.Ytlljmgphgmklcaa.GoA.nth minutes_3l0 1)) := Pb13_13.out.cells rfl 1 _ rfl
      have kt_0_2__495 : wb13_13.cell? ⟨w.heap.size, 2, none⟩ = some (.int .i64 (Go.Proofs.Ytlljmgphgmklcaa.GoA.nth minutes_3l0 2)) := Pb13_13.out.cells rfl 2 _ rfl
      have kt_0_3__496 : wb13_13.cell? ⟨w.heap.size, 3, none⟩ = some (.int .i64 (Go.Proofs.Ytlljmgphgmklcaa.GoA.nth minutes_3l0 3)) := Pb13_13.out.cells rfl 3 _ rfl
      have kt_0_4__497 : wb13_13.cell? ⟨w.heap.size, 4, none⟩ = some (.int .i64 (Go.Proofs.Ytlljmgphgmklcaa.GoA.nth minutes_3l0 4)) := Pb13_13.out.cells rfl 4 _ rfl
      have kt_0_5__498 : wb13_13.cell? ⟨w.heap.size, 5, none⟩ = some (.int .i64 (Go.Proofs.Ytlljmgphgmklcaa.GoA.nth minutes_3l0 5)) := Pb13_13.out.cells rfl 5 _ rfl
      have kt_0_6__499 : wb13_13.cell? ⟨w.heap.size, 6, none⟩ = some (.int .i64 (Go.Proofs.Ytlljmgphgmklcaa.GoA.nth minutes_3l0 6)) := Pb13_13.out.cells rfl 6 _ rfl
      have kt_0_7__500 : wb13_13.cell? ⟨w.heap.size, 7, none⟩ = some (.int .i64 (Go.Proofs.Ytlljmgphgmklcaa.GoA.nth minutes_3l0 7)) := Pb13_13.out.cells rfl 7 _ rfl
      have kt_0_8__501 : wb13_13.cell? ⟨w.heap.size, 8, none⟩ = some (.int .i64 (Go.Proofs.Ytlljmgphgmklcaa.GoA.nth minutes_3l0 8)) := Pb13_13.out.cells rfl 8 _ rfl
      have kt_0_9__502 : wb13_13.cell? ⟨w.heap.size, 9, none⟩ = some (.int .i64 (Go.Proofs.Ytlljmgphgmklcaa.GoA.nth minutes_3l0 9)) := Pb13_13.out.cells rfl 9 _ rfl
      cases ret_hid H
      go_wp2_with fail
      (try simp only [Exit.inBlock, Exit.then])
      refine bodyPost_ret (v := .agg #[.int .i64 (Go.Proofs.Ytlljmgphgmklcaa.GoA.nth minutes_3l0 0), .int .i64 (Go.Proofs.Ytlljmgphgmklcaa.GoA.nth minutes_3l0 1), .int .i64 (Go.Proofs.Ytlljmgphgmklcaa.GoA.nth minutes_3l0 2), .int .i64 (Go.Proofs.Ytlljmgphgmklcaa.GoA.nth minutes_3l0 3), .int .i64 (Go.Proofs.Ytlljmgphgmklcaa.GoA.nth minutes_3l0 4), .int .i64 (Go.Proofs.Ytlljmgphgmklcaa.GoA.nth minutes_3l0 5), .int .i64 (Go.Proofs.Ytlljmgphgmklcaa.GoA.nth minutes_3l0 6), .int .i64 (Go.Proofs.Ytlljmgphgmklcaa.GoA.nth minutes_3l0 7), .int .i64 (Go.Proofs.Ytlljmgphgmklcaa.GoA.nth minutes_3l0 8), .int .i64 (Go.Proofs.Ytlljmgphgmklcaa.GoA.nth minutes_3l0 9)]) ?hr_ ?hd_ ?_
      case hd_ => rfl
      case hr_ => simp [results, Try.results154, kt_0_0__493, kt_0_1__494, kt_0_2__495, kt_0_3__496, kt_0_4__497, kt_0_5__498, kt_0_6__499, kt_0_7__500, kt_0_8__501, kt_0_9__502, go_sem]
      exact ⟨rfl, HBwb13_13.out⟩
    | succ m0 =>
      have hlt0 : k0 < 10 := by omega
      have hc0 : decide ((k0 : Int) < ((10 : Nat) : Int)) = true := by simp; omega
      replace H := cnt_succ H
      have hd0 : decide ((k0 : Int) < 10) = true := by simp; omega
      unfold l0 at H
      replace H := let_hid H
      obtain ⟨_, rfl, H⟩ := H
      replace H := idx_hid H
      obtain ⟨nt_8, yt_8, et_8, lt_8, gt_8, H⟩ := H
      obtain rfl : k0 = nt_8 := by omega
      clear et_8
      have hqt_8 := hnminutes_3l0.out
      obtain ⟨ab_t_8, ao_t_8, zt_8, At_8, z_t_8, ct_8_0⟩ := Go.Proofs.Ytlljmgphgmklcaa.HelpInt.Ints.at_ (own_cells Ominutes_3l0.out) (k := k0) (by omega)
      obtain rfl := Option.some.inj (gt_8.out.symm.trans z_t_8)
      simp only [Option.some.injEq, Addr.mk.injEq] at At_8
      obtain ⟨rfl, rfl, _⟩ := At_8
      clear z_t_8
      simp only [Nat.zero_add] at ct_8_0
      have b0t_8 : (0 : Int) ≤ (k0 : Int) := by omega
      have b1t_8 : (k0 : Int) < ((10 : Nat) : Int) := by omega
      have b2t_8 : ((k0 : Int)).toNat = k0 := by omega
      clear hqt_8
      have b3t_8 : k0 < 10 := by have h_ := lt_8; have hn_ := hnminutes_3l0.out; omega
      have b4t_8 : (k0 : Int) < (10 : Int) := by omega
      replace H := let_hid H
      obtain ⟨l9_9, hl9_9, H⟩ := H
      try simp only [Int.toNat_natCast] at hl9_9
      obtain ⟨wl9_9, hwl9_9⟩ : ∃ x, (wr0).setCell ⟨w_t_0.heap.size, k0, none⟩ (.int .i64 minute) = x := ⟨_, rfl⟩
      have z0l9_9 := Ominutes_3l0.out.frozenAt (k0)
      have Sl9_9 := Lib.hid (own_stores [(k0, .int .i64 minute)] Ominutes_3l0.out)
      have nl9_9 : Hid (l9_9.length = 10) := Lib.hid (by rw [← hl9_9, List.length_set]; exact hnminutes_3l0.out)
      have Pl9_9 : Hid (wl9_9.ownsRow w.heap.size 121 1 (.slice (some ⟨w_t_0.heap.size, 0, none⟩) 10 10) 10 (Go.Proofs.Ytlljmgphgmklcaa.HelpInt.iv l9_9)) := Lib.hid (by have e_ : ([(k0, .int .i64 minute)] : List (Nat × Value)).foldl (fun xs p => xs.set p.1 p.2) (Go.Proofs.Ytlljmgphgmklcaa.HelpInt.iv minutes_3l0) = (Go.Proofs.Ytlljmgphgmklcaa.HelpInt.iv l9_9) := (by rw [← hl9_9]; first | done | simp [Go.Proofs.Ytlljmgphgmklcaa.HelpInt.iv, List.map_set]); rw [← hwl9_9, ← e_]; exact Sl9_9.out.1)
      have Gl9_9 : Hid (wr0.grownBy wl9_9 (Value.slice (some ⟨w_t_0.heap.size, 0, none⟩) 10 10).ownBlock) := Lib.hid (by rw [← hwl9_9]; exact Sl9_9.out.2)
      have HBwl9_9 := Lib.hid (HBwr0.out.grown Gl9_9.out HBwr0.out.size (fun q hq => (Ominutes_3l0.out.lt q hq).1))
      have hhl9_9 := Lib.hid hl9_9
      clear hl9_9 Sl9_9
      have kt_0_0__503 := cell_other kt_0_0__473 Gl9_9.out Dminutes_3l0_t_0.out
      have kt_0_1__504 := cell_other kt_0_1__474 Gl9_9.out Dminutes_3l0_t_0.out
      have kt_0_2__505 := cell_other kt_0_2__475 Gl9_9.out Dminutes_3l0_t_0.out
      have kt_0_3__506 := cell_other kt_0_3__476 Gl9_9.out Dminutes_3l0_t_0.out
      have kt_0_4__507 := cell_other kt_0_4__477 Gl9_9.out Dminutes_3l0_t_0.out
      have kt_0_5__508 := cell_other kt_0_5__478 Gl9_9.out Dminutes_3l0_t_0.out
      have kt_0_6__509 := cell_other kt_0_6__479 Gl9_9.out Dminutes_3l0_t_0.out
      have kt_0_7__510 := cell_other kt_0_7__480 Gl9_9.out Dminutes_3l0_t_0.out
      have kt_0_8__511 := cell_other kt_0_8__481 Gl9_9.out Dminutes_3l0_t_0.out
      have kt_0_9__512 := cell_other kt_0_9__482 Gl9_9.out Dminutes_3l0_t_0.out
      replace Ot_0 := Lib.hid (own_other Ot_0.out Gl9_9.out Dminutes_3l0_t_0.out)
      clear Ominutes_3l0 Gl9_9
      replace H := app_hid H
      go_wp2_with fail
      clear z0l9_9 kt_0_0__473 kt_0_1__474 kt_0_2__475 kt_0_3__476 kt_0_4__477 kt_0_5__478 kt_0_6__479 kt_0_7__480 kt_0_8__481 kt_0_9__482 ct_8_0
      go_roundg m0
      case measure => omega
      case rel => exact ⟨k0 + 1, _, by omega, by go_num, H, HBwl9_9, kt_0_0__503, kt_0_1__504, kt_0_2__505, kt_0_3__506, kt_0_4__507, kt_0_5__508, kt_0_6__509, kt_0_7__510, kt_0_8__511, kt_0_9__512, Ot_0, Pl9_9, Lib.hid (nl9_9.out), Lib.hid Dminutes_3l0_t_0.out⟩
end Go.Proofs.Ytlljmgphgmklcaa.GiFilledWith

