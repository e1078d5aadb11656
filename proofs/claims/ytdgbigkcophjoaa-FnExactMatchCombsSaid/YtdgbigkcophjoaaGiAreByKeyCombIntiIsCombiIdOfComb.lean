/- loop.example/g01062/impl.areByKey[loop.example/g01062/impl.Comb,int] as a plain function, and the contract of the program's: where the plain one has an answer, the program has it. Conditions: slices read as lists. -/
import Derived.Test.YtdgbigkcophjoaaChecked
import Derived.Test.YtdgbigkcophjoaaGoM
import Derived.Test.YtdgbigkcophjoaaGoRComb
import Derived.Test.YtdgbigkcophjoaaOComb
import Derived.Test.YtdgbigkcophjoaaGiIsComb
import Derived.Test.YtdgbigkcophjoaaGiIdOfComb
import Derived.WalkKit
import Derived.WalkSpells
import Derived.WalkLawsBesides
import Derived.BigQuiet
import Derived.OwnWalk
import Derived.Deep.LoopGhost
import Derived.Deep.QuietTactic
import Derived.IntWalk
import Derived.Lib.QuietBelow
namespace Go.Proofs.Ytdgbigkcophjoaa.GiAreByKeyCombIntiIsCombiIdOfComb
set_option linter.unusedVariables false
set_option linter.unusedSimpArgs false
open Go.RowKit
open Go.Proofs.Ytdgbigkcophjoaa.Rowed Go.Proofs.Ytdgbigkcophjoaa.Turn Go.Proofs.Ytdgbigkcophjoaa.Aid Go.Proofs.Ytdgbigkcophjoaa.GoP Go.Proofs.Ytdgbigkcophjoaa.GoM

def l0 (list : (List Go.Proofs.Ytdgbigkcophjoaa.PComb.Comb)) (k0 : Nat) (s : Unit) (nx0 bk0 : Unit → Option (Bool)) : Option (Bool) :=
  
  Option.bind (idx list (k0 : Int)) fun (yt_11 : Go.Proofs.Ytdgbigkcophjoaa.PComb.Comb) =>
  unComb yt_11 fun (t_11_id : Int) (t_11_wide : Int) (t_11_high : Int) (t_11_line : Bool) =>
  Option.bind (Go.Proofs.Ytdgbigkcophjoaa.GiIsComb.P (Go.Proofs.Ytdgbigkcophjoaa.PComb.Comb.mk t_11_id t_11_wide t_11_high t_11_line)) fun (t_18 : Bool) =>
  letK (!t_18) fun (t_19 : Bool) =>
  joinK (fun (t_36 : Bool) =>
  iteK t_36
  (some false)
  (appK nx0 ())) fun jt_36 => iteK t_19 (appK jt_36 true) (letK (decide (0 < (k0 : Int))) fun (t_22 : Bool) =>
  joinK (fun (t_35 : Bool) =>
  appK jt_36 t_35) fun jt_35 => iteK t_22 (Option.bind (Go.Proofs.Ytdgbigkcophjoaa.GiIdOfComb.P (Go.Proofs.Ytdgbigkcophjoaa.PComb.Comb.mk t_11_id t_11_wide t_11_high t_11_line)) fun (t_26 : Int) =>
  letK (IntKind.i64.wrap ((k0 : Int) - 1)) fun (t_30 : Int) =>
  Option.bind (idx list t_30) fun (yt_31 : Go.Proofs.Ytdgbigkcophjoaa.PComb.Comb) =>
  unComb yt_31 fun (t_31_id : Int) (t_31_wide : Int) (t_31_high : Int) (t_31_line : Bool) =>
  Option.bind (Go.Proofs.Ytdgbigkcophjoaa.GiIdOfComb.P (Go.Proofs.Ytdgbigkcophjoaa.PComb.Comb.mk t_31_id t_31_wide t_31_high t_31_line)) fun (t_33 : Int) =>
  letK (decide (t_26 ≤ t_33)) fun (t_34 : Bool) =>
  appK jt_35 t_34) (appK jt_35 false))

def e0  (s : Unit) : Option (Bool) :=
  
  some true

def P (list : (List Go.Proofs.Ytdgbigkcophjoaa.PComb.Comb)) (most : Int) : Option (Bool) :=
  letK (decide (most < (list.length : Int))) fun (t_4 : Bool) =>
  iteK t_4
  (some false)
  (cntK (l0 list) (list.length) 0 () (e0 ))

set_option maxRecDepth 100000 in
set_option maxHeartbeats 2000000 in
theorem C (list : (List Go.Proofs.Ytdgbigkcophjoaa.PComb.Comb)) (most : Int) (A0 : Option Addr) (c0 : Nat)  (w : World) (M0 : Hid (Cells w 4 A0 list.length (Go.Proofs.Ytdgbigkcophjoaa.PComb.flat list))) (N0 : Hid (list.length ≤ 9223372036854775807))  {r : Bool} (H : Hid (P list most = some r)) :
    Calls Try.prog 92 #[.slice A0 list.length c0, .int .i64 most, .func (.func 93) #[] #[], .func (.func 94) #[] #[]] w (Gives (.bool r) w) := by
  have HB := Lib.hid (Below.refl w.heap.size w)
  unfold P at H
  have N0o := N0.out
  go_enter Try.func92, Try.ntmps92
  replace H := let_hid H
  obtain ⟨t_4, ht_4, H⟩ := H
  cases t_4 with
  | false =>
    replace H := ite_f H
    go_wp2_with fail
    go_loopg [17] (list.length) (fun m_ v17_ wr => ∃ (k0 : Nat) , k0 + m_ = list.length ∧ v17_ = .int .i64 (k0 : Int) ∧ Hid (cntK (l0 list) m_ k0 () (e0 ) = some r) ∧ Hid (Below w.heap.size w wr))
    case atStart => exact ⟨0, by omega, rfl, H, HB⟩
    case round =>
      obtain ⟨k0, hkm0, rfl, H, HBwr0⟩ := hrel
      rename World => wr0
      cases gk with
      | zero =>
        obtain rfl : k0 = list.length := by omega
        have hc0 : decide (((list.length : Nat) : Int) < ((list.length : Nat) : Int)) = false := by simp
        replace H := cnt_zero H
        unfold e0 at H
        obtain rfl := ret_hid H
        go_wp2_with fail
        go_ret
        exact ⟨rfl, HBwr0.out⟩
      | succ m0 =>
        have hlt0 : k0 < list.length := by omega
        have hc0 : decide ((k0 : Int) < ((list.length : Nat) : Int)) = true := by simp; omega
        replace H := cnt_succ H
        unfold l0 at H
        replace H := idx_hid H
        obtain ⟨nt_11, yt_11, et_11, lt_11, gt_11, H⟩ := H
        obtain rfl : k0 = nt_11 := by omega
        clear et_11
        obtain ⟨t_11_id, t_11_wide, t_11_high, t_11_line⟩ := yt_11
        replace H := unComb_hid H
        obtain ⟨ab_t_11, ao_t_11, zt_11, At_11, z_t_11, ct_11_0, ct_11_1, ct_11_2, ct_11_3⟩ := Go.Proofs.Ytdgbigkcophjoaa.OComb.at_ M0.out lt_11
        obtain rfl := Option.some.inj (gt_11.out.symm.trans z_t_11)
        subst At_11
        have ltt_11 := cell_lt ct_11_0
        replace ct_11_0 := cell_below HBwr0.out ct_11_0
        replace ct_11_1 := cell_below HBwr0.out ct_11_1
        replace ct_11_2 := cell_below HBwr0.out ct_11_2
        replace ct_11_3 := cell_below HBwr0.out ct_11_3
        clear z_t_11
        have b0t_11 : (0 : Int) ≤ (k0 : Int) := by omega
        have b1t_11 : (k0 : Int) < ((list.length : Nat) : Int) := by omega
        have b2t_11 : ((k0 : Int)).toNat = k0 := by omega
        obtain ⟨w_e_13, hw_e_13⟩ : ∃ x, wr0.alloc (.cells #[.int .i64 t_11_id, .int .i64 t_11_wide, .int .i64 t_11_high, .bool t_11_line] 101) = x := ⟨_, rfl⟩
        have bw_e_13 : Below wr0.heap.size wr0 w_e_13 := by rw [← hw_e_13]; exact (Below.refl _ _).alloc (Nat.le_refl _) _
        have HBw_e_13 := Lib.hid (Below.step HBwr0.out bw_e_13)
        have ct_11_0__460 := cell_below bw_e_13 ct_11_0
        have ct_11_1__461 := cell_below bw_e_13 ct_11_1
        have ct_11_2__462 := cell_below bw_e_13 ct_11_2
        have ct_11_3__463 := cell_below bw_e_13 ct_11_3
        clear bw_e_13
        have ke_13_0 : w_e_13.cell? ⟨wr0.heap.size, 0, none⟩ = some (.int .i64 t_11_id) := by rw [← hw_e_13]; exact box_new _ _ _ 0 _ rfl
        have ke_13_1 : w_e_13.cell? ⟨wr0.heap.size, 1, none⟩ = some (.int .i64 t_11_wide) := by rw [← hw_e_13]; exact box_new _ _ _ 1 _ rfl
        have ke_13_2 : w_e_13.cell? ⟨wr0.heap.size, 2, none⟩ = some (.int .i64 t_11_high) := by rw [← hw_e_13]; exact box_new _ _ _ 2 _ rfl
        have ke_13_3 : w_e_13.cell? ⟨wr0.heap.size, 3, none⟩ = some (.bool t_11_line) := by rw [← hw_e_13]; exact box_new _ _ _ 3 _ rfl
        go_wp2_with fail
        clear ct_11_0 ct_11_1 ct_11_2 ct_11_3
        have Hct_11_0__460 := Lib.hid ct_11_0__460
        replace ct_11_0__460 := cell_regrown ct_11_0__460
        have Hct_11_1__461 := Lib.hid ct_11_1__461
        replace ct_11_1__461 := cell_regrown ct_11_1__461
        have Hct_11_2__462 := Lib.hid ct_11_2__462
        replace ct_11_2__462 := cell_regrown ct_11_2__462
        have Hct_11_3__463 := Lib.hid ct_11_3__463
        replace ct_11_3__463 := cell_regrown ct_11_3__463
        have Hke_13_0 := Lib.hid ke_13_0
        replace ke_13_0 := cell_regrown ke_13_0
        have Hke_13_1 := Lib.hid ke_13_1
        replace ke_13_1 := cell_regrown ke_13_1
        have Hke_13_2 := Lib.hid ke_13_2
        replace ke_13_2 := cell_regrown ke_13_2
        have Hke_13_3 := Lib.hid ke_13_3
        replace ke_13_3 := cell_regrown ke_13_3
        replace H := bind_hid H
        obtain ⟨t_18, qt_18, H⟩ := H
        have nt_18 : ∀ d os, Calls Try.prog 93 #[.agg #[.int .i64 t_11_id, .int .i64 t_11_wide, .int .i64 t_11_high, .bool t_11_line]] (Go.Sort.grow (redrawn w_e_13 d) os) fun e w'' => e = .returned (.bool t_18) ∧ ∃ p : Regrown, w'' = Go.Sort.grow (redrawn w_e_13 p.d) p.os := fun d os => Calls.regrown_of (Go.Proofs.Ytdgbigkcophjoaa.GiIsComb.C ((Go.Proofs.Ytdgbigkcophjoaa.PComb.Comb.mk t_11_id t_11_wide t_11_high t_11_line))  _    qt_18)
        cases t_18 with
        | false =>
          replace H := let_hid H
          obtain ⟨t_19, ht_19, H⟩ := H
          obtain rfl : t_19 = true := ht_19.symm
          replace H := join_hid H
          replace H := ite_t H
          replace H := app_hid H
          refine wp_region_quiet_below (by kernel_rfl) (by kernel_rfl) ?_
          repeat (go_big_quiet_step (first | (go_at_call 93; exact nt_18 _ _)))
          refine wpQuiet_nil ?_
          intro Y6 hY6
          replace hY6 := below_class hY6
          clear nt_18
          replace ct_11_0__460 := Hct_11_0__460.out
          clear Hct_11_0__460
          replace ct_11_1__461 := Hct_11_1__461.out
          clear Hct_11_1__461
          replace ct_11_2__462 := Hct_11_2__462.out
          clear Hct_11_2__462
          replace ct_11_3__463 := Hct_11_3__463.out
          clear Hct_11_3__463
          replace ke_13_0 := Hke_13_0.out
          clear Hke_13_0
          replace ke_13_1 := Hke_13_1.out
          clear Hke_13_1
          replace ke_13_2 := Hke_13_2.out
          clear Hke_13_2
          replace ke_13_3 := Hke_13_3.out
          clear Hke_13_3
          have HBY6 := Lib.hid (Below.step HBw_e_13.out hY6)
          replace ct_11_0__460 := cell_below hY6 ct_11_0__460
          replace ct_11_1__461 := cell_below hY6 ct_11_1__461
          replace ct_11_2__462 := cell_below hY6 ct_11_2__462
          replace ct_11_3__463 := cell_below hY6 ct_11_3__463
          replace ke_13_0 := cell_below hY6 ke_13_0
          replace ke_13_1 := cell_below hY6 ke_13_1
          replace ke_13_2 := cell_below hY6 ke_13_2
          replace ke_13_3 := cell_below hY6 ke_13_3
          clear hY6
          replace H := ite_t H
          obtain rfl := ret_hid H
          go_wp2_with fail
          go_ret
          exact ⟨rfl, HBY6.out⟩
        | true =>
          replace H := let_hid H
          obtain ⟨t_19, ht_19, H⟩ := H
          obtain rfl : t_19 = false := ht_19.symm
          replace H := join_hid H
          replace H := ite_f H
          replace H := let_hid H
          obtain ⟨t_22, ht_22, H⟩ := H
          replace H := join_hid H
          cases t_22 with
          | false =>
            have nht_22 : ¬ (0 < k0) := by have := of_decide_eq_false ht_22; omega
            replace H := ite_f H
            replace H := app_hid H
            replace H := app_hid H
            refine wp_region_quiet_below (by kernel_rfl) (by kernel_rfl) ?_
            repeat (go_big_quiet_step (first | (go_at_call 93; exact nt_18 _ _)))
            refine wpQuiet_nil ?_
            intro Y6 hY6
            replace hY6 := below_class hY6
            clear nt_18
            replace ct_11_0__460 := Hct_11_0__460.out
            clear Hct_11_0__460
            replace ct_11_1__461 := Hct_11_1__461.out
            clear Hct_11_1__461
            replace ct_11_2__462 := Hct_11_2__462.out
            clear Hct_11_2__462
            replace ct_11_3__463 := Hct_11_3__463.out
            clear Hct_11_3__463
            replace ke_13_0 := Hke_13_0.out
            clear Hke_13_0
            replace ke_13_1 := Hke_13_1.out
            clear Hke_13_1
            replace ke_13_2 := Hke_13_2.out
            clear Hke_13_2
            replace ke_13_3 := Hke_13_3.out
            clear Hke_13_3
            have HBY6 := Lib.hid (Below.step HBw_e_13.out hY6)
            replace ct_11_0__460 := cell_below hY6 ct_11_0__460
            replace ct_11_1__461 := cell_below hY6 ct_11_1__461
            replace ct_11_2__462 := cell_below hY6 ct_11_2__462
            replace ct_11_3__463 := cell_below hY6 ct_11_3__463
            replace ke_13_0 := cell_below hY6 ke_13_0
            replace ke_13_1 := cell_below hY6 ke_13_1
            replace ke_13_2 := cell_below hY6 ke_13_2
            replace ke_13_3 := cell_below hY6 ke_13_3
            clear hY6
            replace H := ite_f H
            replace H := app_hid H
            go_wp2_with fail
            go_roundg m0
            case measure => omega
            case rel => exact ⟨k0 + 1, by omega, by go_num, H, HBY6⟩
          | true =>
            have nht_22 : 0 < k0 := by have := of_decide_eq_true ht_22; omega
            replace H := ite_t H
            replace H := bind_hid H
            obtain ⟨t_26, qt_26, H⟩ := H
            have nt_26 : ∀ d os, Calls Try.prog 94 #[.agg #[.int .i64 t_11_id, .int .i64 t_11_wide, .int .i64 t_11_high, .bool t_11_line]] (Go.Sort.grow (redrawn w_e_13 d) os) fun e w'' => e = .returned (.int .i64 t_26) ∧ ∃ p : Regrown, w'' = Go.Sort.grow (redrawn w_e_13 p.d) p.os := fun d os => Calls.regrown_of (Go.Proofs.Ytdgbigkcophjoaa.GiIdOfComb.C ((Go.Proofs.Ytdgbigkcophjoaa.PComb.Comb.mk t_11_id t_11_wide t_11_high t_11_line))  _    qt_26)
            replace H := let_hid H
            obtain ⟨t_30, ht_30, H⟩ := H
            replace H := idx_hid H
            obtain ⟨nt_31, yt_31, et_31, lt_31, gt_31, H⟩ := H
            subst et_31
            obtain ⟨t_31_id, t_31_wide, t_31_high, t_31_line⟩ := yt_31
            replace H := unComb_hid H
            obtain ⟨ab_t_31, ao_t_31, zt_31, At_31, z_t_31, ct_31_0, ct_31_1, ct_31_2, ct_31_3⟩ := Go.Proofs.Ytdgbigkcophjoaa.OComb.at_ M0.out lt_31
            obtain rfl := Option.some.inj (gt_31.out.symm.trans z_t_31)
            simp only [Option.some.injEq, Addr.mk.injEq] at At_31
            obtain ⟨rfl, rfl, _⟩ := At_31
            have ltt_31 := cell_lt ct_31_0
            replace ct_31_0 := cell_below HBw_e_13.out ct_31_0
            replace ct_31_1 := cell_below HBw_e_13.out ct_31_1
            replace ct_31_2 := cell_below HBw_e_13.out ct_31_2
            replace ct_31_3 := cell_below HBw_e_13.out ct_31_3
            clear z_t_31
            have b0t_31 : (0 : Int) ≤ (nt_31 : Int) := by omega
            have b1t_31 : (nt_31 : Int) < ((list.length : Nat) : Int) := by omega
            have b2t_31 : ((nt_31 : Int)).toNat = nt_31 := by omega
            have Hct_31_0 := Lib.hid ct_31_0
            replace ct_31_0 := cell_regrown ct_31_0
            have Hct_31_1 := Lib.hid ct_31_1
            replace ct_31_1 := cell_regrown ct_31_1
            have Hct_31_2 := Lib.hid ct_31_2
            replace ct_31_2 := cell_regrown ct_31_2
            have Hct_31_3 := Lib.hid ct_31_3
            replace ct_31_3 := cell_regrown ct_31_3
            replace H := bind_hid H
            obtain ⟨t_33, qt_33, H⟩ := H
            have nt_33 : ∀ d os, Calls Try.prog 94 #[.agg #[.int .i64 t_31_id, .int .i64 t_31_wide, .int .i64 t_31_high, .bool t_31_line]] (Go.Sort.grow (redrawn w_e_13 d) os) fun e w'' => e = .returned (.int .i64 t_33) ∧ ∃ p : Regrown, w'' = Go.Sort.grow (redrawn w_e_13 p.d) p.os := fun d os => Calls.regrown_of (Go.Proofs.Ytdgbigkcophjoaa.GiIdOfComb.C ((Go.Proofs.Ytdgbigkcophjoaa.PComb.Comb.mk t_31_id t_31_wide t_31_high t_31_line))  _    qt_33)
            replace H := let_hid H
            obtain ⟨t_34, ht_34, H⟩ := H
            replace H := app_hid H
            replace H := app_hid H
            refine wp_region_quiet_below (by kernel_rfl) (by kernel_rfl) ?_
            repeat (go_big_quiet_step (first | (go_at_call 94; with_reducible exact nt_26 _ _) | (go_at_call 94; with_reducible exact nt_33 _ _) | (go_at_call 93; exact nt_18 _ _) | (go_at_call 94; exact nt_26 _ _) | (go_at_call 94; exact nt_33 _ _)))
            refine wpQuiet_nil ?_
            intro Y6 hY6
            replace hY6 := below_class hY6
            clear nt_18 nt_26 nt_33
            replace ct_11_0__460 := Hct_11_0__460.out
            clear Hct_11_0__460
            replace ct_11_1__461 := Hct_11_1__461.out
            clear Hct_11_1__461
            replace ct_11_2__462 := Hct_11_2__462.out
            clear Hct_11_2__462
            replace ct_11_3__463 := Hct_11_3__463.out
            clear Hct_11_3__463
            replace ke_13_0 := Hke_13_0.out
            clear Hke_13_0
            replace ke_13_1 := Hke_13_1.out
            clear Hke_13_1
            replace ke_13_2 := Hke_13_2.out
            clear Hke_13_2
            replace ke_13_3 := Hke_13_3.out
            clear Hke_13_3
            replace ct_31_0 := Hct_31_0.out
            clear Hct_31_0
            replace ct_31_1 := Hct_31_1.out
            clear Hct_31_1
            replace ct_31_2 := Hct_31_2.out
            clear Hct_31_2
            replace ct_31_3 := Hct_31_3.out
            clear Hct_31_3
            have HBY6 := Lib.hid (Below.step HBw_e_13.out hY6)
            replace ct_11_0__460 := cell_below hY6 ct_11_0__460
            replace ct_11_1__461 := cell_below hY6 ct_11_1__461
            replace ct_11_2__462 := cell_below hY6 ct_11_2__462
            replace ct_11_3__463 := cell_below hY6 ct_11_3__463
            replace ke_13_0 := cell_below hY6 ke_13_0
            replace ke_13_1 := cell_below hY6 ke_13_1
            replace ke_13_2 := cell_below hY6 ke_13_2
            replace ke_13_3 := cell_below hY6 ke_13_3
            replace ct_31_0 := cell_below hY6 ct_31_0
            replace ct_31_1 := cell_below hY6 ct_31_1
            replace ct_31_2 := cell_below hY6 ct_31_2
            replace ct_31_3 := cell_below hY6 ct_31_3
            clear hY6
            cases t_34 with
            | false =>
              replace H := ite_f H
              replace H := app_hid H
              go_wp2_with fail
              go_roundg m0
              case measure => omega
              case rel => exact ⟨k0 + 1, by omega, by go_num, H, HBY6⟩
            | true =>
              replace H := ite_t H
              obtain rfl := ret_hid H
              go_wp2_with fail
              go_ret
              exact ⟨rfl, HBY6.out⟩
  | true =>
    replace H := ite_t H
    obtain rfl := ret_hid H
    go_wp2_with fail
    go_ret
    exact ⟨rfl, HB.out⟩
end Go.Proofs.Ytdgbigkcophjoaa.GiAreByKeyCombIntiIsCombiIdOfComb
