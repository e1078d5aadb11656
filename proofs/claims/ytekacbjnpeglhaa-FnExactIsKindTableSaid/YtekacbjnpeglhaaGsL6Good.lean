/- loop.example/g01062/spec.l6Good as a plain function, and the contract of the program's: where the plain one has an answer, the program has it. Conditions: slices read as lists. -/
import Derived.Test.YtekacbjnpeglhaaChecked
import Derived.Test.YtekacbjnpeglhaaGoM
import Derived.Test.YtekacbjnpeglhaaGoRBan
import Derived.Test.YtekacbjnpeglhaaGoRKindTable
import Derived.Test.YtekacbjnpeglhaaHelpInt
import Derived.Test.YtekacbjnpeglhaaOBan
import Derived.Test.YtekacbjnpeglhaaGsL1In
import Derived.Test.YtekacbjnpeglhaaGsL6Ban
import Derived.Test.YtekacbjnpeglhaaGsL6Code
import Derived.WalkKit
import Derived.WalkSpells
import Derived.WalkLawsBesides
import Derived.BigQuiet
import Derived.OwnWalk
import Derived.Deep.LoopGhost
import Derived.Deep.QuietTactic
import Derived.IntWalk
import Derived.Lib.QuietBelow
namespace Go.Proofs.Ytekacbjnpeglhaa.GsL6Good
set_option linter.unusedVariables false
set_option linter.unusedSimpArgs false
open Go.RowKit
open Go.Proofs.Ytekacbjnpeglhaa.Rowed Go.Proofs.Ytekacbjnpeglhaa.Turn Go.Proofs.Ytekacbjnpeglhaa.Aid Go.Proofs.Ytekacbjnpeglhaa.GoP Go.Proofs.Ytekacbjnpeglhaa.GoM

def l0 (t_sizes : (List Int)) (s : Int) (nx0 bk0 : Int → Option (Bool)) : Option (Bool) :=
  letK s fun i_3l0 =>
  letK (decide (i_3l0 < (t_sizes.length : Int))) fun (t_19 : Bool) =>
  iteK t_19
  (Option.bind (idx t_sizes i_3l0) fun (yt_23 : Int) =>
  Option.bind (Go.Proofs.Ytekacbjnpeglhaa.GsL1In.P yt_23 1 5) fun (t_25 : Bool) =>
  letK (!t_25) fun (t_26 : Bool) =>
  iteK t_26
  (some false)
  (letK (IntKind.i64.wrap (i_3l0 + 1)) fun (t_29 : Int) =>
  appK nx0 (t_29)))
  (appK bk0 (i_3l0))

def l1 (t_sizes : (List Int)) (t_bans : (List Go.Proofs.Ytekacbjnpeglhaa.PBan.Ban)) (s : Int) (nx1 bk1 : Int → Option (Bool)) : Option (Bool) :=
  letK s fun i_4l1 =>
  letK (decide (i_4l1 < (t_bans.length : Int))) fun (t_36 : Bool) =>
  iteK t_36
  (Option.bind (idx t_bans i_4l1) fun (yt_42 : Go.Proofs.Ytekacbjnpeglhaa.PBan.Ban) =>
  unBan yt_42 fun (t_42_a : Int) (t_42_x : Int) (t_42_b : Int) (t_42_y : Int) =>
  Option.bind (Go.Proofs.Ytekacbjnpeglhaa.GsL6Ban.P t_sizes (Go.Proofs.Ytekacbjnpeglhaa.PBan.Ban.mk t_42_a t_42_x t_42_b t_42_y)) fun (t_44 : Bool) =>
  letK (!t_44) fun (t_45 : Bool) =>
  joinK (fun (t_65 : Bool) =>
  iteK t_65
  (some false)
  (letK (IntKind.i64.wrap (i_4l1 + 1)) fun (t_68 : Int) =>
  appK nx1 (t_68))) fun jt_65 => iteK t_45 (appK jt_65 true) (letK (decide (0 < i_4l1)) fun (t_48 : Bool) =>
  joinK (fun (t_64 : Bool) =>
  appK jt_65 t_64) fun jt_64 => iteK t_48 (letK (IntKind.i64.wrap (i_4l1 - 1)) fun (t_53 : Int) =>
  Option.bind (idx t_bans t_53) fun (yt_54 : Go.Proofs.Ytekacbjnpeglhaa.PBan.Ban) =>
  unBan yt_54 fun (t_54_a : Int) (t_54_x : Int) (t_54_b : Int) (t_54_y : Int) =>
  Option.bind (Go.Proofs.Ytekacbjnpeglhaa.GsL6Code.P (Go.Proofs.Ytekacbjnpeglhaa.PBan.Ban.mk t_54_a t_54_x t_54_b t_54_y)) fun (t_56 : Int) =>
  Option.bind (idx t_bans i_4l1) fun (yt_60 : Go.Proofs.Ytekacbjnpeglhaa.PBan.Ban) =>
  unBan yt_60 fun (t_60_a : Int) (t_60_x : Int) (t_60_b : Int) (t_60_y : Int) =>
  Option.bind (Go.Proofs.Ytekacbjnpeglhaa.GsL6Code.P (Go.Proofs.Ytekacbjnpeglhaa.PBan.Ban.mk t_60_a t_60_x t_60_b t_60_y)) fun (t_62 : Int) =>
  letK (decide (t_62 ≤ t_56)) fun (t_63 : Bool) =>
  appK jt_64 t_63) (appK jt_64 false)))
  (appK bk1 (i_4l1))

def e1  (s : Int) : Option (Bool) :=
  letK s fun i_4l1 =>
  some true

def e0 (t_sizes : (List Int)) (t_bans : (List Go.Proofs.Ytekacbjnpeglhaa.PBan.Ban)) (fuel : Nat) (s : Int) : Option (Bool) :=
  letK s fun i_3l0 =>
  loopK (l1 t_sizes t_bans) fuel (0) (e1 )

def P (fuel : Nat) (t_sizes : (List Int)) (t_bans : (List Go.Proofs.Ytekacbjnpeglhaa.PBan.Ban)) : Option (Bool) :=
  Option.bind (Go.Proofs.Ytekacbjnpeglhaa.GsL1In.P (t_sizes.length : Int) 1 5) fun (t_5 : Bool) =>
  letK (!t_5) fun (t_6 : Bool) =>
  joinK (fun (t_12 : Bool) =>
  iteK t_12
  (some false)
  (loopK (l0 t_sizes) fuel (0) (e0 t_sizes t_bans fuel))) fun jt_12 => iteK t_6 (appK jt_12 true) (letK (decide (20 < (t_bans.length : Int))) fun (t_11 : Bool) =>
  appK jt_12 t_11)

set_option maxRecDepth 100000 in
set_option maxHeartbeats 2000000 in
theorem C (fuel : Nat) (t_sizes : (List Int)) (t_bans : (List Go.Proofs.Ytekacbjnpeglhaa.PBan.Ban)) (A0_0 : Option Addr) (c0_0 : Nat) (A0_1 : Option Addr) (c0_1 : Nat)  (w : World) (M0_0 : Hid (Cells w 1 A0_0 t_sizes.length (Go.Proofs.Ytekacbjnpeglhaa.HelpInt.iv t_sizes))) (N0_0 : Hid (t_sizes.length ≤ 9223372036854775807)) (M0_1 : Hid (Cells w 4 A0_1 t_bans.length (Go.Proofs.Ytekacbjnpeglhaa.PBan.flat t_bans))) (N0_1 : Hid (t_bans.length ≤ 9223372036854775807))  {r : Bool} (H : Hid (P fuel t_sizes t_bans = some r)) :
    Calls Try.prog 53 #[.agg #[.slice A0_0 t_sizes.length c0_0, .slice A0_1 t_bans.length c0_1]] w (Gives (.bool r) w) := by
  have HB := Lib.hid (Below.refl w.heap.size w)
  unfold P at H
  have N0_0o := N0_0.out
  have N0_1o := N0_1.out
  go_enter Try.func53, Try.ntmps53
  obtain ⟨w_t_0, hw_t_0⟩ : ∃ x, w.alloc (.cells #[.slice A0_0 t_sizes.length c0_0, .slice A0_1 t_bans.length c0_1] 30) = x := ⟨_, rfl⟩
  have bw_t_0 : Below w.heap.size w w_t_0 := by rw [← hw_t_0]; exact (Below.refl _ _).alloc (Nat.le_refl _) _
  have HBw_t_0 := Lib.hid (Below.step HB.out bw_t_0)
  clear bw_t_0
  have kt_0_0 : w_t_0.cell? ⟨w.heap.size, 0, none⟩ = some (.slice A0_0 t_sizes.length c0_0) := by rw [← hw_t_0]; exact box_new _ _ _ 0 _ rfl
  have kt_0_1 : w_t_0.cell? ⟨w.heap.size, 1, none⟩ = some (.slice A0_1 t_bans.length c0_1) := by rw [← hw_t_0]; exact box_new _ _ _ 1 _ rfl
  replace H := bind_hid H
  obtain ⟨t_5, qt_5, H⟩ := H
  go_wp2_with fail
  go_at_call 89
  refine (Go.Proofs.Ytekacbjnpeglhaa.GsL1In.C ((t_sizes.length : Int)) (1) (5)  _    qt_5).mono ?_
  rintro e_t_5 wt_5 ⟨rfl, bt_5⟩
  have HBwt_5 := Lib.hid (Below.step HBw_t_0.out bt_5)
  replace kt_0_0 := cell_below bt_5 kt_0_0
  replace kt_0_1 := cell_below bt_5 kt_0_1
  clear bt_5
  cases t_5 with
  | false =>
    replace H := let_hid H
    obtain ⟨t_6, ht_6, H⟩ := H
    obtain rfl : t_6 = true := ht_6.symm
    replace H := join_hid H
    replace H := ite_t H
    replace H := app_hid H
    replace H := ite_t H
    obtain rfl := ret_hid H
    go_wp2_with fail
    go_ret
    exact ⟨rfl, HBwt_5.out⟩
  | true =>
    replace H := let_hid H
    obtain ⟨t_6, ht_6, H⟩ := H
    obtain rfl : t_6 = false := ht_6.symm
    replace H := join_hid H
    replace H := ite_f H
    replace H := let_hid H
    obtain ⟨t_11, ht_11, H⟩ := H
    replace H := app_hid H
    cases t_11 with
    | false =>
      have nht_11 : ¬ (20 < t_bans.length) := by have := of_decide_eq_false ht_11; omega
      replace H := ite_f H
      go_wp2_with fail
      go_loopg [3] (fuel) (fun m_ v3_ wr => ∃ (i_3l0 : Int), v3_ = .int .i64 i_3l0 ∧ Hid (loopK (l0 t_sizes) m_ (i_3l0) (e0 t_sizes t_bans fuel) = some r) ∧ Hid (Below w.heap.size w wr) ∧ wr.cell? ⟨w.heap.size, 0, none⟩ = some (.slice A0_0 t_sizes.length c0_0) ∧ wr.cell? ⟨w.heap.size, 1, none⟩ = some (.slice A0_1 t_bans.length c0_1))
      case atStart => exact ⟨_, rfl, H, HBwt_5, kt_0_0, kt_0_1⟩
      case round =>
        obtain ⟨i_3l0, rfl, H, HBwr0, kt_0_0, kt_0_1⟩ := hrel
        rename World => wr0
        cases gk with
        | zero => exact (loop_zero H).elim
        | succ m0 =>
          replace H := loop_succ H
          unfold l0 at H
          replace H := let_hid H
          obtain ⟨_, rfl, H⟩ := H
          replace H := let_hid H
          obtain ⟨t_19, ht_19, H⟩ := H
          cases t_19 with
          | false =>
            replace H := ite_f H
            replace H := app_hid H
            unfold e0 at H
            replace H := let_hid H
            obtain ⟨_, rfl, H⟩ := H
            go_wp2_with fail
            go_loopg [4] (fuel) (fun m_ v4_ wr => ∃ (i_4l1 : Int), v4_ = .int .i64 i_4l1 ∧ Hid (loopK (l1 t_sizes t_bans) m_ (i_4l1) (e1 ) = some r) ∧ Hid (Below w.heap.size w wr) ∧ wr.cell? ⟨w.heap.size, 0, none⟩ = some (.slice A0_0 t_sizes.length c0_0) ∧ wr.cell? ⟨w.heap.size, 1, none⟩ = some (.slice A0_1 t_bans.length c0_1))
            case atStart => exact ⟨_, rfl, H, HBwr0, kt_0_0, kt_0_1⟩
            case round =>
              obtain ⟨i_4l1, rfl, H, HBwr1, kt_0_0, kt_0_1⟩ := hrel
              rename World => wr1
              cases gk with
              | zero => exact (loop_zero H).elim
              | succ m1 =>
                replace H := loop_succ H
                unfold l1 at H
                replace H := let_hid H
                obtain ⟨_, rfl, H⟩ := H
                replace H := let_hid H
                obtain ⟨t_36, ht_36, H⟩ := H
                cases t_36 with
                | false =>
                  replace H := ite_f H
                  replace H := app_hid H
                  unfold e1 at H
                  replace H := let_hid H
                  obtain ⟨_, rfl, H⟩ := H
                  obtain rfl := ret_hid H
                  go_wp2_with fail
                  go_ret
                  exact ⟨rfl, HBwr1.out⟩
                | true =>
                  replace H := ite_t H
                  go_wp2_with fail
                  have Hkt_0_0 := Lib.hid kt_0_0
                  replace kt_0_0 := cell_regrown kt_0_0
                  have Hkt_0_1 := Lib.hid kt_0_1
                  replace kt_0_1 := cell_regrown kt_0_1
                  replace H := idx_hid H
                  obtain ⟨nt_42, yt_42, et_42, lt_42, gt_42, H⟩ := H
                  subst et_42
                  have nc_105 : nt_42 < t_bans.length := by have := of_decide_eq_true ht_36; omega
                  obtain ⟨t_42_a, t_42_x, t_42_b, t_42_y⟩ := yt_42
                  replace H := unBan_hid H
                  obtain ⟨ab_t_42, ao_t_42, zt_42, At_42, z_t_42, ct_42_0, ct_42_1, ct_42_2, ct_42_3⟩ := Go.Proofs.Ytekacbjnpeglhaa.OBan.at_ M0_1.out lt_42
                  obtain rfl := Option.some.inj (gt_42.out.symm.trans z_t_42)
                  subst At_42
                  have ltt_42 := cell_lt ct_42_0
                  replace ct_42_0 := cell_below HBwr1.out ct_42_0
                  replace ct_42_1 := cell_below HBwr1.out ct_42_1
                  replace ct_42_2 := cell_below HBwr1.out ct_42_2
                  replace ct_42_3 := cell_below HBwr1.out ct_42_3
                  clear z_t_42
                  have b0t_42 : (0 : Int) ≤ (nt_42 : Int) := by omega
                  have b1t_42 : (nt_42 : Int) < ((t_bans.length : Nat) : Int) := by omega
                  have b2t_42 : ((nt_42 : Int)).toNat = nt_42 := by omega
                  have Hct_42_0 := Lib.hid ct_42_0
                  replace ct_42_0 := cell_regrown ct_42_0
                  have Hct_42_1 := Lib.hid ct_42_1
                  replace ct_42_1 := cell_regrown ct_42_1
                  have Hct_42_2 := Lib.hid ct_42_2
                  replace ct_42_2 := cell_regrown ct_42_2
                  have Hct_42_3 := Lib.hid ct_42_3
                  replace ct_42_3 := cell_regrown ct_42_3
                  replace H := bind_hid H
                  obtain ⟨t_44, qt_44, H⟩ := H
                  have nt_44 : ∀ d os, Calls Try.prog 76 #[.slice A0_0 t_sizes.length c0_0, .agg #[.int .i64 t_42_a, .int .i64 t_42_x, .int .i64 t_42_b, .int .i64 t_42_y]] (Go.Sort.grow (redrawn wr1 d) os) fun e w'' => e = .returned (.bool t_44) ∧ ∃ p : Regrown, w'' = Go.Sort.grow (redrawn wr1 p.d) p.os := fun d os => Calls.regrown_of (Go.Proofs.Ytekacbjnpeglhaa.GsL6Ban.C (t_sizes) ((Go.Proofs.Ytekacbjnpeglhaa.PBan.Ban.mk t_42_a t_42_x t_42_b t_42_y)) A0_0 c0_0 _   (Lib.hid (Cells.below (Cells.below M0_0.out HBwr1.out) (below_regrown _ _ _))) N0_0 qt_44)
                  cases t_44 with
                  | false =>
                    replace H := let_hid H
                    obtain ⟨t_45, ht_45, H⟩ := H
                    obtain rfl : t_45 = true := ht_45.symm
                    replace H := join_hid H
                    replace H := ite_t H
                    replace H := app_hid H
                    refine wp_region_quiet_below (by kernel_rfl) (by kernel_rfl) ?_
                    repeat (go_big_quiet_step (first | (go_at_call 76; exact nt_44 _ _)))
                    refine wpQuiet_nil ?_
                    intro Y11 hY11
                    replace hY11 := below_class hY11
                    clear nt_44
                    replace kt_0_0 := Hkt_0_0.out
                    clear Hkt_0_0
                    replace kt_0_1 := Hkt_0_1.out
                    clear Hkt_0_1
                    replace ct_42_0 := Hct_42_0.out
                    clear Hct_42_0
                    replace ct_42_1 := Hct_42_1.out
                    clear Hct_42_1
                    replace ct_42_2 := Hct_42_2.out
                    clear Hct_42_2
                    replace ct_42_3 := Hct_42_3.out
                    clear Hct_42_3
                    have HBY11 := Lib.hid (Below.step HBwr1.out hY11)
                    replace kt_0_0 := cell_below hY11 kt_0_0
                    replace kt_0_1 := cell_below hY11 kt_0_1
                    replace ct_42_0 := cell_below hY11 ct_42_0
                    replace ct_42_1 := cell_below hY11 ct_42_1
                    replace ct_42_2 := cell_below hY11 ct_42_2
                    replace ct_42_3 := cell_below hY11 ct_42_3
                    clear hY11
                    replace H := ite_t H
                    obtain rfl := ret_hid H
                    go_wp2_with fail
                    go_ret
                    exact ⟨rfl, HBY11.out⟩
                  | true =>
                    replace H := let_hid H
                    obtain ⟨t_45, ht_45, H⟩ := H
                    obtain rfl : t_45 = false := ht_45.symm
                    replace H := join_hid H
                    replace H := ite_f H
                    replace H := let_hid H
                    obtain ⟨t_48, ht_48, H⟩ := H
                    replace H := join_hid H
                    cases t_48 with
                    | false =>
                      have nht_48 : ¬ (0 < nt_42) := by have := of_decide_eq_false ht_48; omega
                      replace H := ite_f H
                      replace H := app_hid H
                      replace H := app_hid H
                      refine wp_region_quiet_below (by kernel_rfl) (by kernel_rfl) ?_
                      repeat (go_big_quiet_step (first | (go_at_call 76; exact nt_44 _ _)))
                      refine wpQuiet_nil ?_
                      intro Y11 hY11
                      replace hY11 := below_class hY11
                      clear nt_44
                      replace kt_0_0 := Hkt_0_0.out
                      clear Hkt_0_0
                      replace kt_0_1 := Hkt_0_1.out
                      clear Hkt_0_1
                      replace ct_42_0 := Hct_42_0.out
                      clear Hct_42_0
                      replace ct_42_1 := Hct_42_1.out
                      clear Hct_42_1
                      replace ct_42_2 := Hct_42_2.out
                      clear Hct_42_2
                      replace ct_42_3 := Hct_42_3.out
                      clear Hct_42_3
                      have HBY11 := Lib.hid (Below.step HBwr1.out hY11)
                      replace kt_0_0 := cell_below hY11 kt_0_0
                      replace kt_0_1 := cell_below hY11 kt_0_1
                      replace ct_42_0 := cell_below hY11 ct_42_0
                      replace ct_42_1 := cell_below hY11 ct_42_1
                      replace ct_42_2 := cell_below hY11 ct_42_2
                      replace ct_42_3 := cell_below hY11 ct_42_3
                      clear hY11
                      replace H := ite_f H
                      replace H := let_hid H
                      obtain ⟨t_68, ht_68, H⟩ := H
                      replace H := app_hid H
                      go_wp2_with fail
                      go_roundg m1
                      case measure => omega
                      case rel => exact ⟨_, rfl, H, HBY11, kt_0_0, kt_0_1⟩
                    | true =>
                      have nht_48 : 0 < nt_42 := by have := of_decide_eq_true ht_48; omega
                      replace H := ite_t H
                      replace H := let_hid H
                      obtain ⟨t_53, ht_53, H⟩ := H
                      replace H := idx_hid H
                      obtain ⟨nt_54, yt_54, et_54, lt_54, gt_54, H⟩ := H
                      subst et_54
                      obtain ⟨t_54_a, t_54_x, t_54_b, t_54_y⟩ := yt_54
                      replace H := unBan_hid H
                      obtain ⟨ab_t_54, ao_t_54, zt_54, At_54, z_t_54, ct_54_0, ct_54_1, ct_54_2, ct_54_3⟩ := Go.Proofs.Ytekacbjnpeglhaa.OBan.at_ M0_1.out lt_54
                      obtain rfl := Option.some.inj (gt_54.out.symm.trans z_t_54)
                      simp only [Option.some.injEq, Addr.mk.injEq] at At_54
                      obtain ⟨rfl, rfl, _⟩ := At_54
                      have ltt_54 := cell_lt ct_54_0
                      replace ct_54_0 := cell_below HBwr1.out ct_54_0
                      replace ct_54_1 := cell_below HBwr1.out ct_54_1
                      replace ct_54_2 := cell_below HBwr1.out ct_54_2
                      replace ct_54_3 := cell_below HBwr1.out ct_54_3
                      clear z_t_54
                      have b0t_54 : (0 : Int) ≤ (nt_54 : Int) := by omega
                      have b1t_54 : (nt_54 : Int) < ((t_bans.length : Nat) : Int) := by omega
                      have b2t_54 : ((nt_54 : Int)).toNat = nt_54 := by omega
                      have Hct_54_0 := Lib.hid ct_54_0
                      replace ct_54_0 := cell_regrown ct_54_0
                      have Hct_54_1 := Lib.hid ct_54_1
                      replace ct_54_1 := cell_regrown ct_54_1
                      have Hct_54_2 := Lib.hid ct_54_2
                      replace ct_54_2 := cell_regrown ct_54_2
                      have Hct_54_3 := Lib.hid ct_54_3
                      replace ct_54_3 := cell_regrown ct_54_3
                      replace H := bind_hid H
                      obtain ⟨t_56, qt_56, H⟩ := H
                      have nt_56 : ∀ d os, Calls Try.prog 77 #[.agg #[.int .i64 t_54_a, .int .i64 t_54_x, .int .i64 t_54_b, .int .i64 t_54_y]] (Go.Sort.grow (redrawn wr1 d) os) fun e w'' => e = .returned (.int .i64 t_56) ∧ ∃ p : Regrown, w'' = Go.Sort.grow (redrawn wr1 p.d) p.os := fun d os => Calls.regrown_of (Go.Proofs.Ytekacbjnpeglhaa.GsL6Code.C ((Go.Proofs.Ytekacbjnpeglhaa.PBan.Ban.mk t_54_a t_54_x t_54_b t_54_y))  _    qt_56)
                      replace H := idx_hid H
                      obtain ⟨nt_60, yt_60, et_60, lt_60, gt_60, H⟩ := H
                      obtain rfl : nt_42 = nt_60 := by omega
                      clear et_60
                      obtain rfl := Option.some.inj (gt_42.out.symm.trans gt_60.out)
                      clear gt_60 lt_60
                      replace H := unBan_hid H
                      replace H := bind_hid H
                      obtain ⟨t_62, qt_62, H⟩ := H
                      have nt_62 : ∀ d os, Calls Try.prog 77 #[.agg #[.int .i64 t_42_a, .int .i64 t_42_x, .int .i64 t_42_b, .int .i64 t_42_y]] (Go.Sort.grow (redrawn wr1 d) os) fun e w'' => e = .returned (.int .i64 t_62) ∧ ∃ p : Regrown, w'' = Go.Sort.grow (redrawn wr1 p.d) p.os := fun d os => Calls.regrown_of (Go.Proofs.Ytekacbjnpeglhaa.GsL6Code.C ((Go.Proofs.Ytekacbjnpeglhaa.PBan.Ban.mk t_42_a t_42_x t_42_b t_42_y))  _    qt_62)
                      replace H := let_hid H
                      obtain ⟨t_63, ht_63, H⟩ := H
                      replace H := app_hid H
                      replace H := app_hid H
                      refine wp_region_quiet_below (by kernel_rfl) (by kernel_rfl) ?_
                      repeat (go_big_quiet_step (first | (go_at_call 77; with_reducible exact nt_56 _ _) | (go_at_call 77; with_reducible exact nt_62 _ _) | (go_at_call 76; exact nt_44 _ _) | (go_at_call 77; exact nt_56 _ _) | (go_at_call 77; exact nt_62 _ _)))
                      refine wpQuiet_nil ?_
                      intro Y11 hY11
                      replace hY11 := below_class hY11
                      clear nt_44 nt_56 nt_62
                      replace kt_0_0 := Hkt_0_0.out
                      clear Hkt_0_0
                      replace kt_0_1 := Hkt_0_1.out
                      clear Hkt_0_1
                      replace ct_42_0 := Hct_42_0.out
                      clear Hct_42_0
                      replace ct_42_1 := Hct_42_1.out
                      clear Hct_42_1
                      replace ct_42_2 := Hct_42_2.out
                      clear Hct_42_2
                      replace ct_42_3 := Hct_42_3.out
                      clear Hct_42_3
                      replace ct_54_0 := Hct_54_0.out
                      clear Hct_54_0
                      replace ct_54_1 := Hct_54_1.out
                      clear Hct_54_1
                      replace ct_54_2 := Hct_54_2.out
                      clear Hct_54_2
                      replace ct_54_3 := Hct_54_3.out
                      clear Hct_54_3
                      have HBY11 := Lib.hid (Below.step HBwr1.out hY11)
                      replace kt_0_0 := cell_below hY11 kt_0_0
                      replace kt_0_1 := cell_below hY11 kt_0_1
                      replace ct_42_0 := cell_below hY11 ct_42_0
                      replace ct_42_1 := cell_below hY11 ct_42_1
                      replace ct_42_2 := cell_below hY11 ct_42_2
                      replace ct_42_3 := cell_below hY11 ct_42_3
                      replace ct_54_0 := cell_below hY11 ct_54_0
                      replace ct_54_1 := cell_below hY11 ct_54_1
                      replace ct_54_2 := cell_below hY11 ct_54_2
                      replace ct_54_3 := cell_below hY11 ct_54_3
                      clear hY11
                      cases t_63 with
                      | false =>
                        replace H := ite_f H
                        replace H := let_hid H
                        obtain ⟨t_68, ht_68, H⟩ := H
                        replace H := app_hid H
                        go_wp2_with fail
                        go_roundg m1
                        case measure => omega
                        case rel => exact ⟨_, rfl, H, HBY11, kt_0_0, kt_0_1⟩
                      | true =>
                        replace H := ite_t H
                        obtain rfl := ret_hid H
                        go_wp2_with fail
                        go_ret
                        exact ⟨rfl, HBY11.out⟩
          | true =>
            replace H := ite_t H
            replace H := idx_hid H
            obtain ⟨nt_23, yt_23, et_23, lt_23, gt_23, H⟩ := H
            subst et_23
            have nc_106 : nt_23 < t_sizes.length := by have := of_decide_eq_true ht_19; omega
            obtain ⟨ab_t_23, ao_t_23, zt_23, At_23, z_t_23, ct_23_0⟩ := Go.Proofs.Ytekacbjnpeglhaa.HelpInt.Ints.at_ M0_0.out lt_23
            obtain rfl := Option.some.inj (gt_23.out.symm.trans z_t_23)
            subst At_23
            have ltt_23 := cell_lt ct_23_0
            replace ct_23_0 := cell_below HBwr0.out ct_23_0
            clear z_t_23
            have b0t_23 : (0 : Int) ≤ (nt_23 : Int) := by omega
            have b1t_23 : (nt_23 : Int) < ((t_sizes.length : Nat) : Int) := by omega
            have b2t_23 : ((nt_23 : Int)).toNat = nt_23 := by omega
            replace H := bind_hid H
            obtain ⟨t_25, qt_25, H⟩ := H
            go_wp2_with fail
            go_at_call 89
            refine (Go.Proofs.Ytekacbjnpeglhaa.GsL1In.C (yt_23) (1) (5)  _    qt_25).mono ?_
            rintro e_t_25 wt_25 ⟨rfl, bt_25⟩
            have HBwt_25 := Lib.hid (Below.step HBwr0.out bt_25)
            replace kt_0_0 := cell_below bt_25 kt_0_0
            replace kt_0_1 := cell_below bt_25 kt_0_1
            replace ct_23_0 := cell_below bt_25 ct_23_0
            clear bt_25
            cases t_25 with
            | false =>
              replace H := let_hid H
              obtain ⟨t_26, ht_26, H⟩ := H
              obtain rfl : t_26 = true := ht_26.symm
              replace H := ite_t H
              obtain rfl := ret_hid H
              go_wp2_with fail
              go_ret
              exact ⟨rfl, HBwt_25.out⟩
            | true =>
              replace H := let_hid H
              obtain ⟨t_26, ht_26, H⟩ := H
              obtain rfl : t_26 = false := ht_26.symm
              replace H := ite_f H
              replace H := let_hid H
              obtain ⟨t_29, ht_29, H⟩ := H
              replace H := app_hid H
              go_wp2_with fail
              go_roundg m0
              case measure => omega
              case rel => exact ⟨_, rfl, H, HBwt_25, kt_0_0, kt_0_1⟩
    | true =>
      have nht_11 : 20 < t_bans.length := by have := of_decide_eq_true ht_11; omega
      replace H := ite_t H
      obtain rfl := ret_hid H
      go_wp2_with fail
      go_ret
      exact ⟨rfl, HBwt_5.out⟩
end Go.Proofs.Ytekacbjnpeglhaa.GsL6Good
