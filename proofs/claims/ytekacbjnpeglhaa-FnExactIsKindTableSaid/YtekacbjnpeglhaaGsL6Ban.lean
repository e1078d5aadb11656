/- loop.example/g01062/spec.l6Ban as a plain function, and the contract of the program's: where the plain one has an answer, the program has it. Conditions: slices read as lists. -/
import Derived.Test.YtekacbjnpeglhaaChecked
import Derived.Test.YtekacbjnpeglhaaGoM
import Derived.Test.YtekacbjnpeglhaaGoRBan
import Derived.Test.YtekacbjnpeglhaaHelpInt
import Derived.Test.YtekacbjnpeglhaaGsL1In
import Derived.WalkKit
import Derived.WalkSpells
import Derived.WalkLawsBesides
import Derived.BigQuiet
import Derived.OwnWalk
import Derived.Deep.LoopGhost
import Derived.Deep.QuietTactic
import Derived.IntWalk
import Derived.Lib.QuietBelow
namespace Go.Proofs.Ytekacbjnpeglhaa.GsL6Ban
set_option linter.unusedVariables false
set_option linter.unusedSimpArgs false
open Go.RowKit
open Go.Proofs.Ytekacbjnpeglhaa.Rowed Go.Proofs.Ytekacbjnpeglhaa.Turn Go.Proofs.Ytekacbjnpeglhaa.Aid Go.Proofs.Ytekacbjnpeglhaa.GoP Go.Proofs.Ytekacbjnpeglhaa.GoM

def P (sizes : (List Int)) (b : Go.Proofs.Ytekacbjnpeglhaa.PBan.Ban) : Option (Bool) :=
  unBan b fun (b_a : Int) (b_x : Int) (b_b : Int) (b_y : Int) =>
  letK (decide (0 ≤ b_a)) fun (t_4 : Bool) =>
  joinK (fun (t_11 : Bool) =>
  joinK (fun (t_18 : Bool) =>
  joinK (fun (t_29 : Bool) =>
  joinK (fun (t_40 : Bool) =>
  some t_40) fun jt_40 => iteK t_29 (Option.bind (idx sizes b_b) fun (yt_36 : Int) =>
  letK (IntKind.i64.wrap (yt_36 - 1)) fun (t_38 : Int) =>
  Option.bind (Go.Proofs.Ytekacbjnpeglhaa.GsL1In.P b_y 0 t_38) fun (t_39 : Bool) =>
  appK jt_40 t_39) (appK jt_40 false)) fun jt_29 => iteK t_18 (Option.bind (idx sizes b_a) fun (yt_25 : Int) =>
  letK (IntKind.i64.wrap (yt_25 - 1)) fun (t_27 : Int) =>
  Option.bind (Go.Proofs.Ytekacbjnpeglhaa.GsL1In.P b_x 0 t_27) fun (t_28 : Bool) =>
  appK jt_29 t_28) (appK jt_29 false)) fun jt_18 => iteK t_11 (letK (decide (b_b < (sizes.length : Int))) fun (t_17 : Bool) =>
  appK jt_18 t_17) (appK jt_18 false)) fun jt_11 => iteK t_4 (letK (decide (b_a < b_b)) fun (t_10 : Bool) =>
  appK jt_11 t_10) (appK jt_11 false)

set_option maxRecDepth 100000 in
set_option maxHeartbeats 2000000 in
theorem C (sizes : (List Int)) (b : Go.Proofs.Ytekacbjnpeglhaa.PBan.Ban) (A0 : Option Addr) (c0 : Nat)  (w : World) (M0 : Hid (Cells w 1 A0 sizes.length (Go.Proofs.Ytekacbjnpeglhaa.HelpInt.iv sizes))) (N0 : Hid (sizes.length ≤ 9223372036854775807))  {r : Bool} (H : Hid (P sizes b = some r)) :
    Calls Try.prog 76 #[.slice A0 sizes.length c0, b.val] w (Gives (.bool r) w) := by
  have HB := Lib.hid (Below.refl w.heap.size w)
  unfold P at H
  obtain ⟨b_a, b_x, b_b, b_y⟩ := b
  replace H := unBan_hid H
  unfold Go.Proofs.Ytekacbjnpeglhaa.PBan.Ban.val
  have N0o := N0.out
  go_enter Try.func76, Try.ntmps76
  obtain ⟨w_b_0, hw_b_0⟩ : ∃ x, w.alloc (.cells #[.int .i64 b_a, .int .i64 b_x, .int .i64 b_b, .int .i64 b_y] 57) = x := ⟨_, rfl⟩
  have bw_b_0 : Below w.heap.size w w_b_0 := by rw [← hw_b_0]; exact (Below.refl _ _).alloc (Nat.le_refl _) _
  have HBw_b_0 := Lib.hid (Below.step HB.out bw_b_0)
  clear bw_b_0
  have kb_0_0 : w_b_0.cell? ⟨w.heap.size, 0, none⟩ = some (.int .i64 b_a) := by rw [← hw_b_0]; exact box_new _ _ _ 0 _ rfl
  have kb_0_1 : w_b_0.cell? ⟨w.heap.size, 1, none⟩ = some (.int .i64 b_x) := by rw [← hw_b_0]; exact box_new _ _ _ 1 _ rfl
  have kb_0_2 : w_b_0.cell? ⟨w.heap.size, 2, none⟩ = some (.int .i64 b_b) := by rw [← hw_b_0]; exact box_new _ _ _ 2 _ rfl
  have kb_0_3 : w_b_0.cell? ⟨w.heap.size, 3, none⟩ = some (.int .i64 b_y) := by rw [← hw_b_0]; exact box_new _ _ _ 3 _ rfl
  go_wp2_with fail
  have Hkb_0_0 := Lib.hid kb_0_0
  replace kb_0_0 := cell_regrown kb_0_0
  have Hkb_0_1 := Lib.hid kb_0_1
  replace kb_0_1 := cell_regrown kb_0_1
  have Hkb_0_2 := Lib.hid kb_0_2
  replace kb_0_2 := cell_regrown kb_0_2
  have Hkb_0_3 := Lib.hid kb_0_3
  replace kb_0_3 := cell_regrown kb_0_3
  replace H := let_hid H
  obtain ⟨t_4, ht_4, H⟩ := H
  replace H := join_hid H
  cases t_4 with
  | false =>
    replace H := ite_f H
    replace H := app_hid H
    replace H := join_hid H
    replace H := ite_f H
    replace H := app_hid H
    replace H := join_hid H
    replace H := ite_f H
    replace H := app_hid H
    replace H := join_hid H
    replace H := ite_f H
    replace H := app_hid H
    refine wp_region_quiet_below (by kernel_rfl) (by kernel_rfl) ?_
    repeat (go_big_quiet_step (fail))
    refine wpQuiet_nil ?_
    intro Y1 hY1
    replace hY1 := below_class hY1
    replace kb_0_0 := Hkb_0_0.out
    clear Hkb_0_0
    replace kb_0_1 := Hkb_0_1.out
    clear Hkb_0_1
    replace kb_0_2 := Hkb_0_2.out
    clear Hkb_0_2
    replace kb_0_3 := Hkb_0_3.out
    clear Hkb_0_3
    have HBY1 := Lib.hid (Below.step HBw_b_0.out hY1)
    replace kb_0_0 := cell_below hY1 kb_0_0
    replace kb_0_1 := cell_below hY1 kb_0_1
    replace kb_0_2 := cell_below hY1 kb_0_2
    replace kb_0_3 := cell_below hY1 kb_0_3
    clear hY1
    obtain rfl := ret_hid H
    go_wp2_with fail
    go_ret
    exact ⟨rfl, HBY1.out⟩
  | true =>
    replace H := ite_t H
    replace H := let_hid H
    obtain ⟨t_10, ht_10, H⟩ := H
    replace H := app_hid H
    replace H := join_hid H
    cases t_10 with
    | false =>
      replace H := ite_f H
      replace H := app_hid H
      replace H := join_hid H
      replace H := ite_f H
      replace H := app_hid H
      replace H := join_hid H
      replace H := ite_f H
      replace H := app_hid H
      refine wp_region_quiet_below (by kernel_rfl) (by kernel_rfl) ?_
      repeat (go_big_quiet_step (fail))
      refine wpQuiet_nil ?_
      intro Y1 hY1
      replace hY1 := below_class hY1
      replace kb_0_0 := Hkb_0_0.out
      clear Hkb_0_0
      replace kb_0_1 := Hkb_0_1.out
      clear Hkb_0_1
      replace kb_0_2 := Hkb_0_2.out
      clear Hkb_0_2
      replace kb_0_3 := Hkb_0_3.out
      clear Hkb_0_3
      have HBY1 := Lib.hid (Below.step HBw_b_0.out hY1)
      replace kb_0_0 := cell_below hY1 kb_0_0
      replace kb_0_1 := cell_below hY1 kb_0_1
      replace kb_0_2 := cell_below hY1 kb_0_2
      replace kb_0_3 := cell_below hY1 kb_0_3
      clear hY1
      obtain rfl := ret_hid H
      go_wp2_with fail
      go_ret
      exact ⟨rfl, HBY1.out⟩
    | true =>
      replace H := ite_t H
      replace H := let_hid H
      obtain ⟨t_17, ht_17, H⟩ := H
      replace H := app_hid H
      replace H := join_hid H
      cases t_17 with
      | false =>
        replace H := ite_f H
        replace H := app_hid H
        replace H := join_hid H
        replace H := ite_f H
        replace H := app_hid H
        refine wp_region_quiet_below (by kernel_rfl) (by kernel_rfl) ?_
        repeat (go_big_quiet_step (fail))
        refine wpQuiet_nil ?_
        intro Y1 hY1
        replace hY1 := below_class hY1
        replace kb_0_0 := Hkb_0_0.out
        clear Hkb_0_0
        replace kb_0_1 := Hkb_0_1.out
        clear Hkb_0_1
        replace kb_0_2 := Hkb_0_2.out
        clear Hkb_0_2
        replace kb_0_3 := Hkb_0_3.out
        clear Hkb_0_3
        have HBY1 := Lib.hid (Below.step HBw_b_0.out hY1)
        replace kb_0_0 := cell_below hY1 kb_0_0
        replace kb_0_1 := cell_below hY1 kb_0_1
        replace kb_0_2 := cell_below hY1 kb_0_2
        replace kb_0_3 := cell_below hY1 kb_0_3
        clear hY1
        obtain rfl := ret_hid H
        go_wp2_with fail
        go_ret
        exact ⟨rfl, HBY1.out⟩
      | true =>
        replace H := ite_t H
        replace H := idx_hid H
        obtain ⟨nt_25, yt_25, et_25, lt_25, gt_25, H⟩ := H
        subst et_25
        have nc_102 : 0 ≤ nt_25 := by have := of_decide_eq_true ht_4; omega
        obtain ⟨ab_t_25, ao_t_25, zt_25, At_25, z_t_25, ct_25_0⟩ := Go.Proofs.Ytekacbjnpeglhaa.HelpInt.Ints.at_ M0.out lt_25
        obtain rfl := Option.some.inj (gt_25.out.symm.trans z_t_25)
        subst At_25
        have ltt_25 := cell_lt ct_25_0
        replace ct_25_0 := cell_below HBw_b_0.out ct_25_0
        clear z_t_25
        have b0t_25 : (0 : Int) ≤ (nt_25 : Int) := by omega
        have b1t_25 : (nt_25 : Int) < ((sizes.length : Nat) : Int) := by omega
        have b2t_25 : ((nt_25 : Int)).toNat = nt_25 := by omega
        have Hct_25_0 := Lib.hid ct_25_0
        replace ct_25_0 := cell_regrown ct_25_0
        replace H := let_hid H
        obtain ⟨t_27, ht_27, H⟩ := H
        replace H := bind_hid H
        obtain ⟨t_28, qt_28, H⟩ := H
        have nt_28 : ∀ d os, Calls Try.prog 89 #[.int .i64 b_x, .int .i64 0, .int .i64 t_27] (Go.Sort.grow (redrawn w_b_0 d) os) fun e w'' => e = .returned (.bool t_28) ∧ ∃ p : Regrown, w'' = Go.Sort.grow (redrawn w_b_0 p.d) p.os := fun d os => Calls.regrown_of (Go.Proofs.Ytekacbjnpeglhaa.GsL1In.C (b_x) (0) (t_27)  _    qt_28)
        replace H := app_hid H
        replace H := join_hid H
        cases t_28 with
        | false =>
          replace H := ite_f H
          replace H := app_hid H
          refine wp_region_quiet_below (by kernel_rfl) (by kernel_rfl) ?_
          repeat (go_big_quiet_step (first | (go_at_call 89; exact nt_28 _ _)))
          refine wpQuiet_nil ?_
          intro Y1 hY1
          replace hY1 := below_class hY1
          clear nt_28
          replace kb_0_0 := Hkb_0_0.out
          clear Hkb_0_0
          replace kb_0_1 := Hkb_0_1.out
          clear Hkb_0_1
          replace kb_0_2 := Hkb_0_2.out
          clear Hkb_0_2
          replace kb_0_3 := Hkb_0_3.out
          clear Hkb_0_3
          replace ct_25_0 := Hct_25_0.out
          clear Hct_25_0
          have HBY1 := Lib.hid (Below.step HBw_b_0.out hY1)
          replace kb_0_0 := cell_below hY1 kb_0_0
          replace kb_0_1 := cell_below hY1 kb_0_1
          replace kb_0_2 := cell_below hY1 kb_0_2
          replace kb_0_3 := cell_below hY1 kb_0_3
          replace ct_25_0 := cell_below hY1 ct_25_0
          clear hY1
          obtain rfl := ret_hid H
          go_wp2_with fail
          go_ret
          exact ⟨rfl, HBY1.out⟩
        | true =>
          replace H := ite_t H
          replace H := idx_hid H
          obtain ⟨nt_36, yt_36, et_36, lt_36, gt_36, H⟩ := H
          subst et_36
          have nc_103 : nt_25 < nt_36 := by have := of_decide_eq_true ht_10; omega
          have nc_104 : nt_36 < sizes.length := by have := of_decide_eq_true ht_17; omega
          obtain ⟨ab_t_36, ao_t_36, zt_36, At_36, z_t_36, ct_36_0⟩ := Go.Proofs.Ytekacbjnpeglhaa.HelpInt.Ints.at_ M0.out lt_36
          obtain rfl := Option.some.inj (gt_36.out.symm.trans z_t_36)
          simp only [Option.some.injEq, Addr.mk.injEq] at At_36
          obtain ⟨rfl, rfl, _⟩ := At_36
          have ltt_36 := cell_lt ct_36_0
          replace ct_36_0 := cell_below HBw_b_0.out ct_36_0
          clear z_t_36
          have b0t_36 : (0 : Int) ≤ (nt_36 : Int) := by omega
          have b1t_36 : (nt_36 : Int) < ((sizes.length : Nat) : Int) := by omega
          have b2t_36 : ((nt_36 : Int)).toNat = nt_36 := by omega
          have Hct_36_0 := Lib.hid ct_36_0
          replace ct_36_0 := cell_regrown ct_36_0
          replace H := let_hid H
          obtain ⟨t_38, ht_38, H⟩ := H
          replace H := bind_hid H
          obtain ⟨t_39, qt_39, H⟩ := H
          have nt_39 : ∀ d os, Calls Try.prog 89 #[.int .i64 b_y, .int .i64 0, .int .i64 t_38] (Go.Sort.grow (redrawn w_b_0 d) os) fun e w'' => e = .returned (.bool t_39) ∧ ∃ p : Regrown, w'' = Go.Sort.grow (redrawn w_b_0 p.d) p.os := fun d os => Calls.regrown_of (Go.Proofs.Ytekacbjnpeglhaa.GsL1In.C (b_y) (0) (t_38)  _    qt_39)
          replace H := app_hid H
          refine wp_region_quiet_below (by kernel_rfl) (by kernel_rfl) ?_
          repeat (go_big_quiet_step (first | (go_at_call 89; with_reducible exact nt_28 _ _) | (go_at_call 89; with_reducible exact nt_39 _ _) | (go_at_call 89; exact nt_28 _ _) | (go_at_call 89; exact nt_39 _ _)))
          refine wpQuiet_nil ?_
          intro Y1 hY1
          replace hY1 := below_class hY1
          clear nt_28 nt_39
          replace kb_0_0 := Hkb_0_0.out
          clear Hkb_0_0
          replace kb_0_1 := Hkb_0_1.out
          clear Hkb_0_1
          replace kb_0_2 := Hkb_0_2.out
          clear Hkb_0_2
          replace kb_0_3 := Hkb_0_3.out
          clear Hkb_0_3
          replace ct_25_0 := Hct_25_0.out
          clear Hct_25_0
          replace ct_36_0 := Hct_36_0.out
          clear Hct_36_0
          have HBY1 := Lib.hid (Below.step HBw_b_0.out hY1)
          replace kb_0_0 := cell_below hY1 kb_0_0
          replace kb_0_1 := cell_below hY1 kb_0_1
          replace kb_0_2 := cell_below hY1 kb_0_2
          replace kb_0_3 := cell_below hY1 kb_0_3
          replace ct_25_0 := cell_below hY1 ct_25_0
          replace ct_36_0 := cell_below hY1 ct_36_0
          clear hY1
          obtain rfl := ret_hid H
          go_wp2_with fail
          go_ret
          exact ⟨rfl, HBY1.out⟩
end Go.Proofs.Ytekacbjnpeglhaa.GsL6Ban
