/- loop.example/g01062/impl.IsKindTable as a plain function, and the contract of the program's: where the plain one has an answer, the program has it. Conditions: slices read as lists. -/
import Derived.Test.YtekacbjnpeglhaaChecked
import Derived.Test.YtekacbjnpeglhaaGoM
import Derived.Test.YtekacbjnpeglhaaGoRBan
import Derived.Test.YtekacbjnpeglhaaGoRKindTable
import Derived.Test.YtekacbjnpeglhaaHelpInt
import Derived.Test.YtekacbjnpeglhaaOBan
import Derived.Test.YtekacbjnpeglhaaGiWithin
import Derived.Test.YtekacbjnpeglhaaGiIsBan
import Derived.Test.YtekacbjnpeglhaaGiCompareBans
import Derived.WalkKit
import Derived.WalkSpells
import Derived.WalkLawsBesides
import Derived.BigQuiet
import Derived.OwnWalk
import Derived.Deep.LoopGhost
import Derived.Deep.QuietTactic
import Derived.IntWalk
import Derived.Lib.QuietBelow
namespace Go.Proofs.Ytekacbjnpeglhaa.GiIsKindTable
set_option linter.unusedVariables false
set_option linter.unusedSimpArgs false
open Go.RowKit
open Go.Proofs.Ytekacbjnpeglhaa.Rowed Go.Proofs.Ytekacbjnpeglhaa.Turn Go.Proofs.Ytekacbjnpeglhaa.Aid Go.Proofs.Ytekacbjnpeglhaa.GoP Go.Proofs.Ytekacbjnpeglhaa.GoM

def l0 (t_sizes : (List Int)) (k0 : Nat) (s : Unit) (nx0 bk0 : Unit → Option (Bool)) : Option (Bool) :=
  
  Option.bind (idx t_sizes (k0 : Int)) fun (yt_19 : Int) =>
  Option.bind (Go.Proofs.Ytekacbjnpeglhaa.GiWithin.P yt_19 1 5) fun (t_23 : Bool) =>
  letK (!t_23) fun (t_24 : Bool) =>
  iteK t_24
  (some false)
  (appK nx0 ())

def l1 (t_sizes : (List Int)) (t_bans : (List Go.Proofs.Ytekacbjnpeglhaa.PBan.Ban)) (k1 : Nat) (s : Unit) (nx1 bk1 : Unit → Option (Bool)) : Option (Bool) :=
  
  Option.bind (idx t_bans (k1 : Int)) fun (yt_34 : Go.Proofs.Ytekacbjnpeglhaa.PBan.Ban) =>
  unBan yt_34 fun (t_34_a : Int) (t_34_x : Int) (t_34_b : Int) (t_34_y : Int) =>
  Option.bind (Go.Proofs.Ytekacbjnpeglhaa.GiIsBan.P t_sizes (Go.Proofs.Ytekacbjnpeglhaa.PBan.Ban.mk t_34_a t_34_x t_34_b t_34_y)) fun (t_42 : Bool) =>
  letK (!t_42) fun (t_43 : Bool) =>
  joinK (fun (t_58 : Bool) =>
  iteK t_58
  (some false)
  (appK nx1 ())) fun jt_58 => iteK t_43 (appK jt_58 true) (letK (decide (0 < (k1 : Int))) fun (t_46 : Bool) =>
  joinK (fun (t_57 : Bool) =>
  appK jt_58 t_57) fun jt_57 => iteK t_46 (letK (IntKind.i64.wrap ((k1 : Int) - 1)) fun (t_51 : Int) =>
  Option.bind (idx t_bans t_51) fun (yt_52 : Go.Proofs.Ytekacbjnpeglhaa.PBan.Ban) =>
  unBan yt_52 fun (t_52_a : Int) (t_52_x : Int) (t_52_b : Int) (t_52_y : Int) =>
  Option.bind (Go.Proofs.Ytekacbjnpeglhaa.GiCompareBans.P (Go.Proofs.Ytekacbjnpeglhaa.PBan.Ban.mk t_52_a t_52_x t_52_b t_52_y) (Go.Proofs.Ytekacbjnpeglhaa.PBan.Ban.mk t_34_a t_34_x t_34_b t_34_y)) fun (t_55 : Int) =>
  letK (decide (0 ≤ t_55)) fun (t_56 : Bool) =>
  appK jt_57 t_56) (appK jt_57 false))

def e1  (s : Unit) : Option (Bool) :=
  
  some true

def e0 (t_sizes : (List Int)) (t_bans : (List Go.Proofs.Ytekacbjnpeglhaa.PBan.Ban)) (s : Unit) : Option (Bool) :=
  
  cntK (l1 t_sizes t_bans) (t_bans.length) 0 () (e1 )

def P (t_sizes : (List Int)) (t_bans : (List Go.Proofs.Ytekacbjnpeglhaa.PBan.Ban)) : Option (Bool) :=
  Option.bind (Go.Proofs.Ytekacbjnpeglhaa.GiWithin.P (t_sizes.length : Int) 1 5) fun (t_5 : Bool) =>
  letK (!t_5) fun (t_6 : Bool) =>
  joinK (fun (t_12 : Bool) =>
  iteK t_12
  (some false)
  (cntK (l0 t_sizes) (t_sizes.length) 0 () (e0 t_sizes t_bans))) fun jt_12 => iteK t_6 (appK jt_12 true) (letK (decide (20 < (t_bans.length : Int))) fun (t_11 : Bool) =>
  appK jt_12 t_11)

set_option maxRecDepth 100000 in
set_option maxHeartbeats 2000000 in
theorem C (t_sizes : (List Int)) (t_bans : (List Go.Proofs.Ytekacbjnpeglhaa.PBan.Ban)) (A0_0 : Option Addr) (c0_0 : Nat) (A0_1 : Option Addr) (c0_1 : Nat)  (w : World) (M0_0 : Hid (Cells w 1 A0_0 t_sizes.length (Go.Proofs.Ytekacbjnpeglhaa.HelpInt.iv t_sizes))) (N0_0 : Hid (t_sizes.length ≤ 9223372036854775807)) (M0_1 : Hid (Cells w 4 A0_1 t_bans.length (Go.Proofs.Ytekacbjnpeglhaa.PBan.flat t_bans))) (N0_1 : Hid (t_bans.length ≤ 9223372036854775807))  {r : Bool} (H : Hid (P t_sizes t_bans = some r)) :
    Calls Try.prog 16 #[.agg #[.slice A0_0 t_sizes.length c0_0, .slice A0_1 t_bans.length c0_1]] w (Gives (.bool r) w) := by
  have HB := Lib.hid (Below.refl w.heap.size w)
  unfold P at H
  have N0_0o := N0_0.out
  have N0_1o := N0_1.out
  go_enter Try.func16, Try.ntmps16
  obtain ⟨w_t_0, hw_t_0⟩ : ∃ x, w.alloc (.cells #[.slice A0_0 t_sizes.length c0_0, .slice A0_1 t_bans.length c0_1] 30) = x := ⟨_, rfl⟩
  have bw_t_0 : Below w.heap.size w w_t_0 := by rw [← hw_t_0]; exact (Below.refl _ _).alloc (Nat.le_refl _) _
  have HBw_t_0 := Lib.hid (Below.step HB.out bw_t_0)
  clear bw_t_0
  have kt_0_0 : w_t_0.cell? ⟨w.heap.size, 0, none⟩ = some (.slice A0_0 t_sizes.length c0_0) := by rw [← hw_t_0]; exact box_new _ _ _ 0 _ rfl
  have kt_0_1 : w_t_0.cell? ⟨w.heap.size, 1, none⟩ = some (.slice A0_1 t_bans.length c0_1) := by rw [← hw_t_0]; exact box_new _ _ _ 1 _ rfl
  replace H := bind_hid H
  obtain ⟨t_5, qt_5, H⟩ := H
  go_wp2_with fail
  go_at_call 55
  refine (Go.Proofs.Ytekacbjnpeglhaa.GiWithin.C ((t_sizes.length : Int)) (1) (5)  _    qt_5).mono ?_
  rintro e_t_5 wt_5 ⟨rfl, bt_5⟩
  have HBwt_5 := Lib.hid (Below.step HBw_t_0.out bt_5)
  replace kt_0_0 := cell_below bt_5 kt_0_0
  replace kt_0_1 := cell_below bt_5 kt_0_1
  clear bt_5
  cases t_5 with
  | false =>
    replace H := let_hid H
    obtain ⟨t_6, ht_6, H⟩ := H
    obtain rfl : t_6 = true := ht_6.symm
    replace H := join_hid H
    replace H := ite_t H
    replace H := app_hid H
    replace H := ite_t H
    obtain rfl := ret_hid H
    go_wp2_with fail
    go_ret
    exact ⟨rfl, HBwt_5.out⟩
  | true =>
    replace H := let_hid H
    obtain ⟨t_6, ht_6, H⟩ := H
    obtain rfl : t_6 = false := ht_6.symm
    replace H := join_hid H
    replace H := ite_f H
    replace H := let_hid H
    obtain ⟨t_11, ht_11, H⟩ := H
    replace H := app_hid H
    cases t_11 with
    | false =>
      have nht_11 : ¬ (20 < t_bans.length) := by have := of_decide_eq_false ht_11; omega
      replace H := ite_f H
      go_wp2_with fail
      go_loopg [21] (t_sizes.length) (fun m_ v21_ wr => ∃ (k0 : Nat) , k0 + m_ = t_sizes.length ∧ v21_ = .int .i64 (k0 : Int) ∧ Hid (cntK (l0 t_sizes) m_ k0 () (e0 t_sizes t_bans) = some r) ∧ Hid (Below w.heap.size w wr) ∧ wr.cell? ⟨w.heap.size, 0, none⟩ = some (.slice A0_0 t_sizes.length c0_0) ∧ wr.cell? ⟨w.heap.size, 1, none⟩ = some (.slice A0_1 t_bans.length c0_1))
      case atStart => exact ⟨0, by omega, rfl, H, HBwt_5, kt_0_0, kt_0_1⟩
      case round =>
        obtain ⟨k0, hkm0, rfl, H, HBwr0, kt_0_0, kt_0_1⟩ := hrel
        rename World => wr0
        cases gk with
        | zero =>
          obtain rfl : k0 = t_sizes.length := by omega
          have hc0 : decide (((t_sizes.length : Nat) : Int) < ((t_sizes.length : Nat) : Int)) = false := by simp
          replace H := cnt_zero H
          unfold e0 at H
          go_wp2_with fail
          go_loopg [32] (t_bans.length) (fun m_ v32_ wr => ∃ (k1 : Nat) , k1 + m_ = t_bans.length ∧ v32_ = .int .i64 (k1 : Int) ∧ Hid (cntK (l1 t_sizes t_bans) m_ k1 () (e1 ) = some r) ∧ Hid (Below w.heap.size w wr) ∧ wr.cell? ⟨w.heap.size, 0, none⟩ = some (.slice A0_0 t_sizes.length c0_0) ∧ wr.cell? ⟨w.heap.size, 1, none⟩ = some (.slice A0_1 t_bans.length c0_1))
          case atStart => exact ⟨0, by omega, rfl, H, HBwr0, kt_0_0, kt_0_1⟩
          case round =>
            obtain ⟨k1, hkm1, rfl, H, HBwr1, kt_0_0, kt_0_1⟩ := hrel
            rename World => wr1
            cases gk with
            | zero =>
              obtain rfl : k1 = t_bans.length := by omega
              have hc1 : decide (((t_bans.length : Nat) : Int) < ((t_bans.length : Nat) : Int)) = false := by simp
              replace H := cnt_zero H
              unfold e1 at H
              obtain rfl := ret_hid H
              go_wp2_with fail
              go_ret
              exact ⟨rfl, HBwr1.out⟩
            | succ m1 =>
              have hlt1 : k1 < t_bans.length := by omega
              have hc1 : decide ((k1 : Int) < ((t_bans.length : Nat) : Int)) = true := by simp; omega
              replace H := cnt_succ H
              unfold l1 at H
              replace H := idx_hid H
              obtain ⟨nt_34, yt_34, et_34, lt_34, gt_34, H⟩ := H
              obtain rfl : k1 = nt_34 := by omega
              clear et_34
              obtain ⟨t_34_a, t_34_x, t_34_b, t_34_y⟩ := yt_34
              replace H := unBan_hid H
              obtain ⟨ab_t_34, ao_t_34, zt_34, At_34, z_t_34, ct_34_0, ct_34_1, ct_34_2, ct_34_3⟩ := Go.Proofs.Ytekacbjnpeglhaa.OBan.at_ M0_1.out lt_34
              obtain rfl := Option.some.inj (gt_34.out.symm.trans z_t_34)
              subst At_34
              have ltt_34 := cell_lt ct_34_0
              replace ct_34_0 := cell_below HBwr1.out ct_34_0
              replace ct_34_1 := cell_below HBwr1.out ct_34_1
              replace ct_34_2 := cell_below HBwr1.out ct_34_2
              replace ct_34_3 := cell_below HBwr1.out ct_34_3
              clear z_t_34
              have b0t_34 : (0 : Int) ≤ (k1 : Int) := by omega
              have b1t_34 : (k1 : Int) < ((t_bans.length : Nat) : Int) := by omega
              have b2t_34 : ((k1 : Int)).toNat = k1 := by omega
              obtain ⟨w_b_36, hw_b_36⟩ : ∃ x, wr1.alloc (.cells #[.int .i64 t_34_a, .int .i64 t_34_x, .int .i64 t_34_b, .int .i64 t_34_y] 57) = x := ⟨_, rfl⟩
              have bw_b_36 : Below wr1.heap.size wr1 w_b_36 := by rw [← hw_b_36]; exact (Below.refl _ _).alloc (Nat.le_refl _) _
              have HBw_b_36 := Lib.hid (Below.step HBwr1.out bw_b_36)
              have kt_0_0__132 := cell_below bw_b_36 kt_0_0
              have kt_0_1__133 := cell_below bw_b_36 kt_0_1
              have ct_34_0__134 := cell_below bw_b_36 ct_34_0
              have ct_34_1__135 := cell_below bw_b_36 ct_34_1
              have ct_34_2__136 := cell_below bw_b_36 ct_34_2
              have ct_34_3__137 := cell_below bw_b_36 ct_34_3
              clear bw_b_36
              have kb_36_0 : w_b_36.cell? ⟨wr1.heap.size, 0, none⟩ = some (.int .i64 t_34_a) := by rw [← hw_b_36]; exact box_new _ _ _ 0 _ rfl
              have kb_36_1 : w_b_36.cell? ⟨wr1.heap.size, 1, none⟩ = some (.int .i64 t_34_x) := by rw [← hw_b_36]; exact box_new _ _ _ 1 _ rfl
              have kb_36_2 : w_b_36.cell? ⟨wr1.heap.size, 2, none⟩ = some (.int .i64 t_34_b) := by rw [← hw_b_36]; exact box_new _ _ _ 2 _ rfl
              have kb_36_3 : w_b_36.cell? ⟨wr1.heap.size, 3, none⟩ = some (.int .i64 t_34_y) := by rw [← hw_b_36]; exact box_new _ _ _ 3 _ rfl
              go_wp2_with fail
              clear kt_0_0 kt_0_1 ct_34_0 ct_34_1 ct_34_2 ct_34_3
              have Hkt_0_0__132 := Lib.hid kt_0_0__132
              replace kt_0_0__132 := cell_regrown kt_0_0__132
              have Hkt_0_1__133 := Lib.hid kt_0_1__133
              replace kt_0_1__133 := cell_regrown kt_0_1__133
              have Hct_34_0__134 := Lib.hid ct_34_0__134
              replace ct_34_0__134 := cell_regrown ct_34_0__134
              have Hct_34_1__135 := Lib.hid ct_34_1__135
              replace ct_34_1__135 := cell_regrown ct_34_1__135
              have Hct_34_2__136 := Lib.hid ct_34_2__136
              replace ct_34_2__136 := cell_regrown ct_34_2__136
              have Hct_34_3__137 := Lib.hid ct_34_3__137
              replace ct_34_3__137 := cell_regrown ct_34_3__137
              have Hkb_36_0 := Lib.hid kb_36_0
              replace kb_36_0 := cell_regrown kb_36_0
              have Hkb_36_1 := Lib.hid kb_36_1
              replace kb_36_1 := cell_regrown kb_36_1
              have Hkb_36_2 := Lib.hid kb_36_2
              replace kb_36_2 := cell_regrown kb_36_2
              have Hkb_36_3 := Lib.hid kb_36_3
              replace kb_36_3 := cell_regrown kb_36_3
              replace H := bind_hid H
              obtain ⟨t_42, qt_42, H⟩ := H
              have nt_42 : ∀ d os, Calls Try.prog 56 #[.slice A0_0 t_sizes.length c0_0, .agg #[.int .i64 t_34_a, .int .i64 t_34_x, .int .i64 t_34_b, .int .i64 t_34_y]] (Go.Sort.grow (redrawn w_b_36 d) os) fun e w'' => e = .returned (.bool t_42) ∧ ∃ p : Regrown, w'' = Go.Sort.grow (redrawn w_b_36 p.d) p.os := fun d os => Calls.regrown_of (Go.Proofs.Ytekacbjnpeglhaa.GiIsBan.C (t_sizes) ((Go.Proofs.Ytekacbjnpeglhaa.PBan.Ban.mk t_34_a t_34_x t_34_b t_34_y)) A0_0 c0_0 _   (Lib.hid (Cells.below (Cells.below M0_0.out HBw_b_36.out) (below_regrown _ _ _))) N0_0 qt_42)
              cases t_42 with
              | false =>
                replace H := let_hid H
                obtain ⟨t_43, ht_43, H⟩ := H
                obtain rfl : t_43 = true := ht_43.symm
                replace H := join_hid H
                replace H := ite_t H
                replace H := app_hid H
                refine wp_region_quiet_below (by kernel_rfl) (by kernel_rfl) ?_
                repeat (go_big_quiet_step (first | (go_at_call 56; exact nt_42 _ _)))
                refine wpQuiet_nil ?_
                intro Y12 hY12
                replace hY12 := below_class hY12
                clear nt_42
                replace kt_0_0__132 := Hkt_0_0__132.out
                clear Hkt_0_0__132
                replace kt_0_1__133 := Hkt_0_1__133.out
                clear Hkt_0_1__133
                replace ct_34_0__134 := Hct_34_0__134.out
                clear Hct_34_0__134
                replace ct_34_1__135 := Hct_34_1__135.out
                clear Hct_34_1__135
                replace ct_34_2__136 := Hct_34_2__136.out
                clear Hct_34_2__136
                replace ct_34_3__137 := Hct_34_3__137.out
                clear Hct_34_3__137
                replace kb_36_0 := Hkb_36_0.out
                clear Hkb_36_0
                replace kb_36_1 := Hkb_36_1.out
                clear Hkb_36_1
                replace kb_36_2 := Hkb_36_2.out
                clear Hkb_36_2
                replace kb_36_3 := Hkb_36_3.out
                clear Hkb_36_3
                have HBY12 := Lib.hid (Below.step HBw_b_36.out hY12)
                replace kt_0_0__132 := cell_below hY12 kt_0_0__132
                replace kt_0_1__133 := cell_below hY12 kt_0_1__133
                replace ct_34_0__134 := cell_below hY12 ct_34_0__134
                replace ct_34_1__135 := cell_below hY12 ct_34_1__135
                replace ct_34_2__136 := cell_below hY12 ct_34_2__136
                replace ct_34_3__137 := cell_below hY12 ct_34_3__137
                replace kb_36_0 := cell_below hY12 kb_36_0
                replace kb_36_1 := cell_below hY12 kb_36_1
                replace kb_36_2 := cell_below hY12 kb_36_2
                replace kb_36_3 := cell_below hY12 kb_36_3
                clear hY12
                replace H := ite_t H
                obtain rfl := ret_hid H
                go_wp2_with fail
                go_ret
                exact ⟨rfl, HBY12.out⟩
              | true =>
                replace H := let_hid H
                obtain ⟨t_43, ht_43, H⟩ := H
                obtain rfl : t_43 = false := ht_43.symm
                replace H := join_hid H
                replace H := ite_f H
                replace H := let_hid H
                obtain ⟨t_46, ht_46, H⟩ := H
                replace H := join_hid H
                cases t_46 with
                | false =>
                  have nht_46 : ¬ (0 < k1) := by have := of_decide_eq_false ht_46; omega
                  replace H := ite_f H
                  replace H := app_hid H
                  replace H := app_hid H
                  refine wp_region_quiet_below (by kernel_rfl) (by kernel_rfl) ?_
                  repeat (go_big_quiet_step (first | (go_at_call 56; exact nt_42 _ _)))
                  refine wpQuiet_nil ?_
                  intro Y12 hY12
                  replace hY12 := below_class hY12
                  clear nt_42
                  replace kt_0_0__132 := Hkt_0_0__132.out
                  clear Hkt_0_0__132
                  replace kt_0_1__133 := Hkt_0_1__133.out
                  clear Hkt_0_1__133
                  replace ct_34_0__134 := Hct_34_0__134.out
                  clear Hct_34_0__134
                  replace ct_34_1__135 := Hct_34_1__135.out
                  clear Hct_34_1__135
                  replace ct_34_2__136 := Hct_34_2__136.out
                  clear Hct_34_2__136
                  replace ct_34_3__137 := Hct_34_3__137.out
                  clear Hct_34_3__137
                  replace kb_36_0 := Hkb_36_0.out
                  clear Hkb_36_0
                  replace kb_36_1 := Hkb_36_1.out
                  clear Hkb_36_1
                  replace kb_36_2 := Hkb_36_2.out
                  clear Hkb_36_2
                  replace kb_36_3 := Hkb_36_3.out
                  clear Hkb_36_3
                  have HBY12 := Lib.hid (Below.step HBw_b_36.out hY12)
                  replace kt_0_0__132 := cell_below hY12 kt_0_0__132
                  replace kt_0_1__133 := cell_below hY12 kt_0_1__133
                  replace ct_34_0__134 := cell_below hY12 ct_34_0__134
                  replace ct_34_1__135 := cell_below hY12 ct_34_1__135
                  replace ct_34_2__136 := cell_below hY12 ct_34_2__136
                  replace ct_34_3__137 := cell_below hY12 ct_34_3__137
                  replace kb_36_0 := cell_below hY12 kb_36_0
                  replace kb_36_1 := cell_below hY12 kb_36_1
                  replace kb_36_2 := cell_below hY12 kb_36_2
                  replace kb_36_3 := cell_below hY12 kb_36_3
                  clear hY12
                  replace H := ite_f H
                  replace H := app_hid H
                  go_wp2_with fail
                  go_roundg m1
                  case measure => omega
                  case rel => exact ⟨k1 + 1, by omega, by go_num, H, HBY12, kt_0_0__132, kt_0_1__133⟩
                | true =>
                  have nht_46 : 0 < k1 := by have := of_decide_eq_true ht_46; omega
                  replace H := ite_t H
                  replace H := let_hid H
                  obtain ⟨t_51, ht_51, H⟩ := H
                  replace H := idx_hid H
                  obtain ⟨nt_52, yt_52, et_52, lt_52, gt_52, H⟩ := H
                  subst et_52
                  obtain ⟨t_52_a, t_52_x, t_52_b, t_52_y⟩ := yt_52
                  replace H := unBan_hid H
                  obtain ⟨ab_t_52, ao_t_52, zt_52, At_52, z_t_52, ct_52_0, ct_52_1, ct_52_2, ct_52_3⟩ := Go.Proofs.Ytekacbjnpeglhaa.OBan.at_ M0_1.out lt_52
                  obtain rfl := Option.some.inj (gt_52.out.symm.trans z_t_52)
                  simp only [Option.some.injEq, Addr.mk.injEq] at At_52
                  obtain ⟨rfl, rfl, _⟩ := At_52
                  have ltt_52 := cell_lt ct_52_0
                  replace ct_52_0 := cell_below HBw_b_36.out ct_52_0
                  replace ct_52_1 := cell_below HBw_b_36.out ct_52_1
                  replace ct_52_2 := cell_below HBw_b_36.out ct_52_2
                  replace ct_52_3 := cell_below HBw_b_36.out ct_52_3
                  clear z_t_52
                  have b0t_52 : (0 : Int) ≤ (nt_52 : Int) := by omega
                  have b1t_52 : (nt_52 : Int) < ((t_bans.length : Nat) : Int) := by omega
                  have b2t_52 : ((nt_52 : Int)).toNat = nt_52 := by omega
                  have Hct_52_0 := Lib.hid ct_52_0
                  replace ct_52_0 := cell_regrown ct_52_0
                  have Hct_52_1 := Lib.hid ct_52_1
                  replace ct_52_1 := cell_regrown ct_52_1
                  have Hct_52_2 := Lib.hid ct_52_2
                  replace ct_52_2 := cell_regrown ct_52_2
                  have Hct_52_3 := Lib.hid ct_52_3
                  replace ct_52_3 := cell_regrown ct_52_3
                  replace H := bind_hid H
                  obtain ⟨t_55, qt_55, H⟩ := H
                  have nt_55 : ∀ d os, Calls Try.prog 57 #[.agg #[.int .i64 t_52_a, .int .i64 t_52_x, .int .i64 t_52_b, .int .i64 t_52_y], .agg #[.int .i64 t_34_a, .int .i64 t_34_x, .int .i64 t_34_b, .int .i64 t_34_y]] (Go.Sort.grow (redrawn w_b_36 d) os) fun e w'' => e = .returned (.int .i64 t_55) ∧ ∃ p : Regrown, w'' = Go.Sort.grow (redrawn w_b_36 p.d) p.os := fun d os => Calls.regrown_of (Go.Proofs.Ytekacbjnpeglhaa.GiCompareBans.C ((Go.Proofs.Ytekacbjnpeglhaa.PBan.Ban.mk t_52_a t_52_x t_52_b t_52_y)) ((Go.Proofs.Ytekacbjnpeglhaa.PBan.Ban.mk t_34_a t_34_x t_34_b t_34_y))  _    qt_55)
                  replace H := let_hid H
                  obtain ⟨t_56, ht_56, H⟩ := H
                  replace H := app_hid H
                  replace H := app_hid H
                  refine wp_region_quiet_below (by kernel_rfl) (by kernel_rfl) ?_
                  repeat (go_big_quiet_step (first | (go_at_call 56; exact nt_42 _ _) | (go_at_call 57; exact nt_55 _ _)))
                  refine wpQuiet_nil ?_
                  intro Y12 hY12
                  replace hY12 := below_class hY12
                  clear nt_42 nt_55
                  replace kt_0_0__132 := Hkt_0_0__132.out
                  clear Hkt_0_0__132
                  replace kt_0_1__133 := Hkt_0_1__133.out
                  clear Hkt_0_1__133
                  replace ct_34_0__134 := Hct_34_0__134.out
                  clear Hct_34_0__134
                  replace ct_34_1__135 := Hct_34_1__135.out
                  clear Hct_34_1__135
                  replace ct_34_2__136 := Hct_34_2__136.out
                  clear Hct_34_2__136
                  replace ct_34_3__137 := Hct_34_3__137.out
                  clear Hct_34_3__137
                  replace kb_36_0 := Hkb_36_0.out
                  clear Hkb_36_0
                  replace kb_36_1 := Hkb_36_1.out
                  clear Hkb_36_1
                  replace kb_36_2 := Hkb_36_2.out
                  clear Hkb_36_2
                  replace kb_36_3 := Hkb_36_3.out
                  clear Hkb_36_3
                  replace ct_52_0 := Hct_52_0.out
                  clear Hct_52_0
                  replace ct_52_1 := Hct_52_1.out
                  clear Hct_52_1
                  replace ct_52_2 := Hct_52_2.out
                  clear Hct_52_2
                  replace ct_52_3 := Hct_52_3.out
                  clear Hct_52_3
                  have HBY12 := Lib.hid (Below.step HBw_b_36.out hY12)
                  replace kt_0_0__132 := cell_below hY12 kt_0_0__132
                  replace kt_0_1__133 := cell_below hY12 kt_0_1__133
                  replace ct_34_0__134 := cell_below hY12 ct_34_0__134
                  replace ct_34_1__135 := cell_below hY12 ct_34_1__135
                  replace ct_34_2__136 := cell_below hY12 ct_34_2__136
                  replace ct_34_3__137 := cell_below hY12 ct_34_3__137
                  replace kb_36_0 := cell_below hY12 kb_36_0
                  replace kb_36_1 := cell_below hY12 kb_36_1
                  replace kb_36_2 := cell_below hY12 kb_36_2
                  replace kb_36_3 := cell_below hY12 kb_36_3
                  replace ct_52_0 := cell_below hY12 ct_52_0
                  replace ct_52_1 := cell_below hY12 ct_52_1
                  replace ct_52_2 := cell_below hY12 ct_52_2
                  replace ct_52_3 := cell_below hY12 ct_52_3
                  clear hY12
                  cases t_56 with
                  | false =>
                    replace H := ite_f H
                    replace H := app_hid H
                    go_wp2_with fail
                    go_roundg m1
                    case measure => omega
                    case rel => exact ⟨k1 + 1, by omega, by go_num, H, HBY12, kt_0_0__132, kt_0_1__133⟩
                  | true =>
                    replace H := ite_t H
                    obtain rfl := ret_hid H
                    go_wp2_with fail
                    go_ret
                    exact ⟨rfl, HBY12.out⟩
        | succ m0 =>
          have hlt0 : k0 < t_sizes.length := by omega
          have hc0 : decide ((k0 : Int) < ((t_sizes.length : Nat) : Int)) = true := by simp; omega
          replace H := cnt_succ H
          unfold l0 at H
          replace H := idx_hid H
          obtain ⟨nt_19, yt_19, et_19, lt_19, gt_19, H⟩ := H
          obtain rfl : k0 = nt_19 := by omega
          clear et_19
          obtain ⟨ab_t_19, ao_t_19, zt_19, At_19, z_t_19, ct_19_0⟩ := Go.Proofs.Ytekacbjnpeglhaa.HelpInt.Ints.at_ M0_0.out lt_19
          obtain rfl := Option.some.inj (gt_19.out.symm.trans z_t_19)
          subst At_19
          have ltt_19 := cell_lt ct_19_0
          replace ct_19_0 := cell_below HBwr0.out ct_19_0
          clear z_t_19
          have b0t_19 : (0 : Int) ≤ (k0 : Int) := by omega
          have b1t_19 : (k0 : Int) < ((t_sizes.length : Nat) : Int) := by omega
          have b2t_19 : ((k0 : Int)).toNat = k0 := by omega
          replace H := bind_hid H
          obtain ⟨t_23, qt_23, H⟩ := H
          go_wp2_with fail
          go_at_call 55
          refine (Go.Proofs.Ytekacbjnpeglhaa.GiWithin.C (yt_19) (1) (5)  _    qt_23).mono ?_
          rintro e_t_23 wt_23 ⟨rfl, bt_23⟩
          have HBwt_23 := Lib.hid (Below.step HBwr0.out bt_23)
          replace kt_0_0 := cell_below bt_23 kt_0_0
          replace kt_0_1 := cell_below bt_23 kt_0_1
          replace ct_19_0 := cell_below bt_23 ct_19_0
          clear bt_23
          cases t_23 with
          | false =>
            replace H := let_hid H
            obtain ⟨t_24, ht_24, H⟩ := H
            obtain rfl : t_24 = true := ht_24.symm
            replace H := ite_t H
            obtain rfl := ret_hid H
            go_wp2_with fail
            go_ret
            exact ⟨rfl, HBwt_23.out⟩
          | true =>
            replace H := let_hid H
            obtain ⟨t_24, ht_24, H⟩ := H
            obtain rfl : t_24 = false := ht_24.symm
            replace H := ite_f H
            replace H := app_hid H
            go_wp2_with fail
            go_roundg m0
            case measure => omega
            case rel => exact ⟨k0 + 1, by omega, by go_num, H, HBwt_23, kt_0_0, kt_0_1⟩
    | true =>
      have nht_11 : 20 < t_bans.length := by have := of_decide_eq_true ht_11; omega
      replace H := ite_t H
      obtain rfl := ret_hid H
      go_wp2_with fail
      go_ret
      exact ⟨rfl, HBwt_5.out⟩
end Go.Proofs.Ytekacbjnpeglhaa.GiIsKindTable
