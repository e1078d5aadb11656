/- The texts on which the proof of FnExactIsCompatible stands, one behind the other (2 of 2). No condition of their own. -/
import Derived.Test.YtekacbjnpeglhaaChecked
import Derived.Test.YtekacbjnpeglhaaFnExactIsCompatibleP1
import Derived.WalkKit
import Derived.WalkSpells
import Derived.WalkLawsBesides
import Derived.BigQuiet
import Derived.OwnWalk
import Derived.Deep.LoopGhost
import Derived.Deep.QuietTactic
import Derived.IntWalk
import Derived.Lib.QuietBelow
import Derived.Deep.RegionHeld3
import Derived.Laws.OwnMore
import Derived.SliceStrings
import Derived.ChangeSlices
/- loop.example/g01062/impl.IsKindTable as a plain function, and the contract of the program's: where the plain one has an answer, the program has it. Conditions: slices read as lists. -/
namespace Go.Proofs.Ytekacbjnpeglhaa.GiIsKindTable
set_option linter.unusedVariables false
set_option linter.unusedSimpArgs false
open Go.RowKit
open Go.Proofs.Ytekacbjnpeglhaa.Rowed Go.Proofs.Ytekacbjnpeglhaa.Turn Go.Proofs.Ytekacbjnpeglhaa.Aid Go.Proofs.Ytekacbjnpeglhaa.GoP Go.Proofs.Ytekacbjnpeglhaa.GoM

def l0 (t_sizes : (List Int)) (k0 : Nat) (s : Unit) (nx0 bk0 : Unit → Option (Bool)) : Option (Bool) :=
  
  Option.bind (idx t_sizes (k0 : Int)) fun (yt_19 : Int) =>
  Option.bind (Go.Proofs.Ytekacbjnpeglhaa.GiWithin.P yt_19 1 5) fun (t_23 : Bool) =>
  letK (!t_23) fun (t_24 : Bool) =>
  iteK t_24
  (some false)
  (appK nx0 ())

def l1 (t_sizes : (List Int)) (t_bans : (List Go.Proofs.Ytekacbjnpeglhaa.PBan.Ban)) (k1 : Nat) (s : Unit) (nx1 bk1 : Unit → Option (Bool)) : Option (Bool) :=
  
  Option.bind (idx t_bans (k1 : Int)) fun (yt_34 : Go.Proofs.Ytekacbjnpeglhaa.PBan.Ban) =>
  unBan yt_34 fun (t_34_a : Int) (t_34_x : Int) (t_34_b : Int) (t_34_y : Int) =>
  Option.bind (Go.Proofs.Ytekacbjnpeglhaa.GiIsBan.P t_sizes (Go.Proofs.Ytekacbjnpeglhaa.PBan.Ban.mk t_34_a t_34_x t_34_b t_34_y)) fun (t_42 : Bool) =>
  letK (!t_42) fun (t_43 : Bool) =>
  joinK (fun (t_58 : Bool) =>
  iteK t_58
  (some false)
  (appK nx1 ())) fun jt_58 => iteK t_43 (appK jt_58 true) (letK (decide (0 < (k1 : Int))) fun (t_46 : Bool) =>
  joinK (fun (t_57 : Bool) =>
  appK jt_58 t_57) fun jt_57 => iteK t_46 (letK (IntKind.i64.wrap ((k1 : Int) - 1)) fun (t_51 : Int) =>
  Option.bind (idx t_bans t_51) fun (yt_52 : Go.Proofs.Ytekacbjnpeglhaa.PBan.Ban) =>
  unBan yt_52 fun (t_52_a : Int) (t_52_x : Int) (t_52_b : Int) (t_52_y : Int) =>
  Option.bind (Go.Proofs.Ytekacbjnpeglhaa.GiCompareBans.P (Go.Proofs.Ytekacbjnpeglhaa.PBan.Ban.mk t_52_a t_52_x t_52_b t_52_y) (Go.Proofs.Ytekacbjnpeglhaa.PBan.Ban.mk t_34_a t_34_x t_34_b t_34_y)) fun (t_55 : Int) =>
  letK (decide (0 ≤ t_55)) fun (t_56 : Bool) =>
  appK jt_57 t_56) (appK jt_57 false))

def e1  (s : Unit) : Option (Bool) :=
  
  some true

def e0 (t_sizes : (List Int)) (t_bans : (List Go.Proofs.Ytekacbjnpeglhaa.PBan.Ban)) (s : Unit) : Option (Bool) :=
  
  cntK (l1 t_sizes t_bans) (t_bans.length) 0 () (e1 )

def P (t_sizes : (List Int)) (t_bans : (List Go.Proofs.Ytekacbjnpeglhaa.PBan.Ban)) : Option (Bool) :=
  Option.bind (Go.Proofs.Ytekacbjnpeglhaa.GiWithin.P (t_sizes.length : Int) 1 5) fun (t_5 : Bool) =>
  letK (!t_5) fun (t_6 : Bool) =>
  joinK (fun (t_12 : Bool) =>
  iteK t_12
  (some false)
  (cntK (l0 t_sizes) (t_sizes.length) 0 () (e0 t_sizes t_bans))) fun jt_12 => iteK t_6 (appK jt_12 true) (letK (decide (20 < (t_bans.length : Int))) fun (t_11 : Bool) =>
  appK jt_12 t_11)

set_option maxRecDepth 100000 in
set_option maxHeartbeats 2000000 in
theorem C (t_sizes : (List Int)) (t_bans : (List Go.Proofs.Ytekacbjnpeglhaa.PBan.Ban)) (A0_0 : Option Addr) (c0_0 : Nat) (A0_1 : Option Addr) (c0_1 : Nat)  (w : World) (M0_0 : Hid (Cells w 1 A0_0 t_sizes.length (Go.Proofs.Ytekacbjnpeglhaa.HelpInt.iv t_sizes))) (N0_0 : Hid (t_sizes.length ≤ 9223372036854775807)) (M0_1 : Hid (Cells w 4 A0_1 t_bans.length (Go.Proofs.Ytekacbjnpeglhaa.PBan.flat t_bans))) (N0_1 : Hid (t_bans.length ≤ 9223372036854775807))  {r : Bool} (H : Hid (P t_sizes t_bans = some r)) :
    Calls Try.prog 16 #[.agg #[.slice A0_0 t_sizes.length c0_0, .slice A0_1 t_bans.length c0_1]] w (Gives (.bool r) w) := by
  have HB := Lib.hid (Below.refl w.heap.size w)
  unfold P at H
  have N0_0o := N0_0.out
  have N0_1o := N0_1.out
  go_enter Try.func16, Try.ntmps16
  obtain ⟨w_t_0, hw_t_0⟩ : ∃ x, w.alloc (.cells #[.slice A0_0 t_sizes.length c0_0, .slice A0_1 t_bans.length c0_1] 30) = x := ⟨_, rfl⟩
  have bw_t_0 : Below w.heap.size w w_t_0 := by rw [← hw_t_0]; exact (Below.refl _ _).alloc (Nat.le_refl _) _
  have HBw_t_0 := Lib.hid (Below.step HB.out bw_t_0)
  clear bw_t_0
  have kt_0_0 : w_t_0.cell? ⟨w.heap.size, 0, none⟩ = some (.slice A0_0 t_sizes.length c0_0) := by rw [← hw_t_0]; exact box_new _ _ _ 0 _ rfl
  have kt_0_1 : w_t_0.cell? ⟨w.heap.size, 1, none⟩ = some (.slice A0_1 t_bans.length c0_1) := by rw [← hw_t_0]; exact box_new _ _ _ 1 _ rfl
  replace H := bind_hid H
  obtain ⟨t_5, qt_5, H⟩ := H
  go_wp2_with fail
  go_at_call 55
  refine (Go.Proofs.Ytekacbjnpeglhaa.GiWithin.C ((t_sizes.length : Int)) (1) (5)  _    qt_5).mono ?_
  rintro e_t_5 wt_5 ⟨rfl, bt_5⟩
  have HBwt_5 := Lib.hid (Below.step HBw_t_0.out bt_5)
  replace kt_0_0 := cell_below bt_5 kt_0_0
  replace kt_0_1 := cell_below bt_5 kt_0_1
  clear bt_5
  cases t_5 with
  | false =>
    replace H := let_hid H
    obtain ⟨t_6, ht_6, H⟩ := H
    obtain rfl : t_6 = true := ht_6.symm
    replace H := join_hid H
    replace H := ite_t H
    replace H := app_hid H
    replace H := ite_t H
    obtain rfl := ret_hid H
    go_wp2_with fail
    go_ret
    exact ⟨rfl, HBwt_5.out⟩
  | true =>
    replace H := let_hid H
    obtain ⟨t_6, ht_6, H⟩ := H
    obtain rfl : t_6 = false := ht_6.symm
    replace H := join_hid H
    replace H := ite_f H
    replace H := let_hid H
    obtain ⟨t_11, ht_11, H⟩ := H
    replace H := app_hid H
    cases t_11 with
    | false =>
      have nht_11 : ¬ (20 < t_bans.length) := by have := of_decide_eq_false ht_11; omega
      replace H := ite_f H
      go_wp2_with fail
      go_loopg [21] (t_sizes.length) (fun m_ v21_ wr => ∃ (k0 : Nat) , k0 + m_ = t_sizes.length ∧ v21_ = .int .i64 (k0 : Int) ∧ Hid (cntK (l0 t_sizes) m_ k0 () (e0 t_sizes t_bans) = some r) ∧ Hid (Below w.heap.size w wr) ∧ wr.cell? ⟨w.heap.size, 0, none⟩ = some (.slice A0_0 t_sizes.length c0_0) ∧ wr.cell? ⟨w.heap.size, 1, none⟩ = some (.slice A0_1 t_bans.length c0_1))
      case atStart => exact ⟨0, by omega, rfl, H, HBwt_5, kt_0_0, kt_0_1⟩
      case round =>
        obtain ⟨k0, hkm0, rfl, H, HBwr0, kt_0_0, kt_0_1⟩ := hrel
        rename World => wr0
        cases gk with
        | zero =>
          obtain rfl : k0 = t_sizes.length := by omega
          have hc0 : decide (((t_sizes.length : Nat) : Int) < ((t_sizes.length : Nat) : Int)) = false := by simp
          replace H := cnt_zero H
          unfold e0 at H
          go_wp2_with fail
          go_loopg [32] (t_bans.length) (fun m_ v32_ wr => ∃ (k1 : Nat) , k1 + m_ = t_bans.length ∧ v32_ = .int .i64 (k1 : Int) ∧ Hid (cntK (l1 t_sizes t_bans) m_ k1 () (e1 ) = some r) ∧ Hid (Below w.heap.size w wr) ∧ wr.cell? ⟨w.heap.size, 0, none⟩ = some (.slice A0_0 t_sizes.length c0_0) ∧ wr.cell? ⟨w.heap.size, 1, none⟩ = some (.slice A0_1 t_bans.length c0_1))
          case atStart => exact ⟨0, by omega, rfl, H, HBwr0, kt_0_0, kt_0_1⟩
          case round =>
            obtain ⟨k1, hkm1, rfl, H, HBwr1, kt_0_0, kt_0_1⟩ := hrel
            rename World => wr1
            cases gk with
            | zero =>
              obtain rfl : k1 = t_bans.length := by omega
              have hc1 : decide (((t_bans.length : Nat) : Int) < ((t_bans.length : Nat) : Int)) = false := by simp
              replace H := cnt_zero H
              unfold e1 at H
              obtain rfl := ret_hid H
              go_wp2_with fail
              go_ret
              exact ⟨rfl, HBwr1.out⟩
            | succ m1 =>
              have hlt1 : k1 < t_bans.length := by omega
              have hc1 : decide ((k1 : Int) < ((t_bans.length : Nat) : Int)) = true := by simp; omega
              replace H := cnt_succ H
              unfold l1 at H
              replace H := idx_hid H
              obtain ⟨nt_34, yt_34, et_34, lt_34, gt_34, H⟩ := H
              obtain rfl : k1 = nt_34 := by omega
              clear et_34
              obtain ⟨t_34_a, t_34_x, t_34_b, t_34_y⟩ := yt_34
              replace H := unBan_hid H
              obtain ⟨ab_t_34, ao_t_34, zt_34, At_34, z_t_34, ct_34_0, ct_34_1, ct_34_2, ct_34_3⟩ := Go.Proofs.Ytekacbjnpeglhaa.OBan.at_ M0_1.out lt_34
              obtain rfl := Option.some.inj (gt_34.out.symm.trans z_t_34)
              subst At_34
              have ltt_34 := cell_lt ct_34_0
              replace ct_34_0 := cell_below HBwr1.out ct_34_0
              replace ct_34_1 := cell_below HBwr1.out ct_34_1
              replace ct_34_2 := cell_below HBwr1.out ct_34_2
              replace ct_34_3 := cell_below HBwr1.out ct_34_3
              clear z_t_34
              have b0t_34 : (0 : Int) ≤ (k1 : Int) := by omega
              have b1t_34 : (k1 : Int) < ((t_bans.length : Nat) : Int) := by omega
              have b2t_34 : ((k1 : Int)).toNat = k1 := by omega
              obtain ⟨w_b_36, hw_b_36⟩ : ∃ x, wr1.alloc (.cells #[.int .i64 t_34_a, .int .i64 t_34_x, .int .i64 t_34_b, .int .i64 t_34_y] 57) = x := ⟨_, rfl⟩
              have bw_b_36 : Below wr1.heap.size wr1 w_b_36 := by rw [← hw_b_36]; exact (Below.refl _ _).alloc (Nat.le_refl _) _
              have HBw_b_36 := Lib.hid (Below.step HBwr1.out bw_b_36)
              have kt_0_0__132 := cell_below bw_b_36 kt_0_0
              have kt_0_1__133 := cell_below bw_b_36 kt_0_1
              have ct_34_0__134 := cell_below bw_b_36 ct_34_0
              have ct_34_1__135 := cell_below bw_b_36 ct_34_1
              have ct_34_2__136 := cell_below bw_b_36 ct_34_2
              have ct_34_3__137 := cell_below bw_b_36 ct_34_3
              clear bw_b_36
              have kb_36_0 : w_b_36.cell? ⟨wr1.heap.size, 0, none⟩ = some (.int .i64 t_34_a) := by rw [← hw_b_36]; exact box_new _ _ _ 0 _ rfl
              have kb_36_1 : w_b_36.cell? ⟨wr1.heap.size, 1, none⟩ = some (.int .i64 t_34_x) := by rw [← hw_b_36]; exact box_new _ _ _ 1 _ rfl
              have kb_36_2 : w_b_36.cell? ⟨wr1.heap.size, 2, none⟩ = some (.int .i64 t_34_b) := by rw [← hw_b_36]; exact box_new _ _ _ 2 _ rfl
              have kb_36_3 : w_b_36.cell? ⟨wr1.heap.size, 3, none⟩ = some (.int .i64 t_34_y) := by rw [← hw_b_36]; exact box_new _ _ _ 3 _ rfl
              go_wp2_with fail
              clear kt_0_0 kt_0_1 ct_34_0 ct_34_1 ct_34_2 ct_34_3
              have Hkt_0_0__132 := Lib.hid kt_0_0__132
              replace kt_0_0__132 := cell_regrown kt_0_0__132
              have Hkt_0_1__133 := Lib.hid kt_0_1__133
              replace kt_0_1__133 := cell_regrown kt_0_1__133
              have Hct_34_0__134 := Lib.hid ct_34_0__134
              replace ct_34_0__134 := cell_regrown ct_34_0__134
              have Hct_34_1__135 := Lib.hid ct_34_1__135
              replace ct_34_1__135 := cell_regrown ct_34_1__135
              have Hct_34_2__136 := Lib.hid ct_34_2__136
              replace ct_34_2__136 := cell_regrown ct_34_2__136
              have Hct_34_3__137 := Lib.hid ct_34_3__137
              replace ct_34_3__137 := cell_regrown ct_34_3__137
              have Hkb_36_0 := Lib.hid kb_36_0
              replace kb_36_0 := cell_regrown kb_36_0
              have Hkb_36_1 := Lib.hid kb_36_1
              replace kb_36_1 := cell_regrown kb_36_1
              have Hkb_36_2 := Lib.hid kb_36_2
              replace kb_36_2 := cell_regrown kb_36_2
              have Hkb_36_3 := Lib.hid kb_36_3
              replace kb_36_3 := cell_regrown kb_36_3
              replace H := bind_hid H
              obtain ⟨t_42, qt_42, H⟩ := H
              have nt_42 : ∀ d os, Calls Try.prog 56 #[.slice A0_0 t_sizes.length c0_0, .agg #[.int .i64 t_34_a, .int .i64 t_34_x, .int .i64 t_34_b, .int .i64 t_34_y]] (Go.Sort.grow (redrawn w_b_36 d) os) fun e w'' => e = .returned (.bool t_42) ∧ ∃ p : Regrown, w'' = Go.Sort.grow (redrawn w_b_36 p.d) p.os := fun d os => Calls.regrown_of (Go.Proofs.Ytekacbjnpeglhaa.GiIsBan.C (t_sizes) ((Go.Proofs.Ytekacbjnpeglhaa.PBan.Ban.mk t_34_a t_34_x t_34_b t_34_y)) A0_0 c0_0 _   (Lib.hid (Cells.below (Cells.below M0_0.out HBw_b_36.out) (below_regrown _ _ _))) N0_0 qt_42)
              cases t_42 with
              | false =>
                replace H := let_hid H
                obtain ⟨t_43, ht_43, H⟩ := H
                obtain rfl : t_43 = true := ht_43.symm
                replace H := join_hid H
                replace H := ite_t H
                replace H := app_hid H
                refine wp_region_quiet_below (by kernel_rfl) (by kernel_rfl) ?_
                repeat (go_big_quiet_step (first | (go_at_call 56; exact nt_42 _ _)))
                refine wpQuiet_nil ?_
                intro Y12 hY12
                replace hY12 := below_class hY12
                clear nt_42
                replace kt_0_0__132 := Hkt_0_0__132.out
                clear Hkt_0_0__132
                replace kt_0_1__133 := Hkt_0_1__133.out
                clear Hkt_0_1__133
                replace ct_34_0__134 := Hct_34_0__134.out
                clear Hct_34_0__134
                replace ct_34_1__135 := Hct_34_1__135.out
                clear Hct_34_1__135
                replace ct_34_2__136 := Hct_34_2__136.out
                clear Hct_34_2__136
                replace ct_34_3__137 := Hct_34_3__137.out
                clear Hct_34_3__137
                replace kb_36_0 := Hkb_36_0.out
                clear Hkb_36_0
                replace kb_36_1 := Hkb_36_1.out
                clear Hkb_36_1
                replace kb_36_2 := Hkb_36_2.out
                clear Hkb_36_2
                replace kb_36_3 := Hkb_36_3.out
                clear Hkb_36_3
                have HBY12 := Lib.hid (Below.step HBw_b_36.out hY12)
                replace kt_0_0__132 := cell_below hY12 kt_0_0__132
                replace kt_0_1__133 := cell_below hY12 kt_0_1__133
                replace ct_34_0__134 := cell_below hY12 ct_34_0__134
                replace ct_34_1__135 := cell_below hY12 ct_34_1__135
                replace ct_34_2__136 := cell_below hY12 ct_34_2__136
                replace ct_34_3__137 := cell_below hY12 ct_34_3__137
                replace kb_36_0 := cell_below hY12 kb_36_0
                replace kb_36_1 := cell_below hY12 kb_36_1
                replace kb_36_2 := cell_below hY12 kb_36_2
                replace kb_36_3 := cell_below hY12 kb_36_3
                clear hY12
                replace H := ite_t H
                obtain rfl := ret_hid H
                go_wp2_with fail
                go_ret
                exact ⟨rfl, HBY12.out⟩
              | true =>
                replace H := let_hid H
                obtain ⟨t_43, ht_43, H⟩ := H
                obtain rfl : t_43 = false := ht_43.symm
                replace H := join_hid H
                replace H := ite_f H
                replace H := let_hid H
                obtain ⟨t_46, ht_46, H⟩ := H
                replace H := join_hid H
                cases t_46 with
                | false =>
                  have nht_46 : ¬ (0 < k1) := by have := of_decide_eq_false ht_46; omega
                  replace H := ite_f H
                  replace H := app_hid H
                  replace H := app_hid H
                  refine wp_region_quiet_below (by kernel_rfl) (by kernel_rfl) ?_
                  repeat (go_big_quiet_step (first | (go_at_call 56; exact nt_42 _ _)))
                  refine wpQuiet_nil ?_
                  intro Y12 hY12
                  replace hY12 := below_class hY12
                  clear nt_42
                  replace kt_0_0__132 := Hkt_0_0__132.out
                  clear Hkt_0_0__132
                  replace kt_0_1__133 := Hkt_0_1__133.out
                  clear Hkt_0_1__133
                  replace ct_34_0__134 := Hct_34_0__134.out
                  clear Hct_34_0__134
                  replace ct_34_1__135 := Hct_34_1__135.out
                  clear Hct_34_1__135
                  replace ct_34_2__136 := Hct_34_2__136.out
                  clear Hct_34_2__136
                  replace ct_34_3__137 := Hct_34_3__137.out
                  clear Hct_34_3__137
                  replace kb_36_0 := Hkb_36_0.out
                  clear Hkb_36_0
                  replace kb_36_1 := Hkb_36_1.out
                  clear Hkb_36_1
                  replace kb_36_2 := Hkb_36_2.out
                  clear Hkb_36_2
                  replace kb_36_3 := Hkb_36_3.out
                  clear Hkb_36_3
                  have HBY12 := Lib.hid (Below.step HBw_b_36.out hY12)
                  replace kt_0_0__132 := cell_below hY12 kt_0_0__132
                  replace kt_0_1__133 := cell_below hY12 kt_0_1__133
                  replace ct_34_0__134 := cell_below hY12 ct_34_0__134
                  replace ct_34_1__135 := cell_below hY12 ct_34_1__135
                  replace ct_34_2__136 := cell_below hY12 ct_34_2__136
                  replace ct_34_3__137 := cell_below hY12 ct_34_3__137
                  replace kb_36_0 := cell_below hY12 kb_36_0
                  replace kb_36_1 := cell_below hY12 kb_36_1
                  replace kb_36_2 := cell_below hY12 kb_36_2
                  replace kb_36_3 := cell_below hY12 kb_36_3
                  clear hY12
                  replace H := ite_f H
                  replace H := app_hid H
                  go_wp2_with fail
                  go_roundg m1
                  case measure => omega
                  case rel => exact ⟨k1 + 1, by omega, by go_num, H, HBY12, kt_0_0__132, kt_0_1__133⟩
                | true =>
                  have nht_46 : 0 < k1 := by have := of_decide_eq_true ht_46; omega
                  replace H := ite_t H
                  replace H := let_hid H
                  obtain ⟨t_51, ht_51, H⟩ := H
                  replace H := idx_hid H
                  obtain ⟨nt_52, yt_52, et_52, lt_52, gt_52, H⟩ := H
                  subst et_52
                  obtain ⟨t_52_a, t_52_x, t_52_b, t_52_y⟩ := yt_52
                  replace H := unBan_hid H
                  obtain ⟨ab_t_52, ao_t_52, zt_52, At_52, z_t_52, ct_52_0, ct_52_1, ct_52_2, ct_52_3⟩ := Go.Proofs.Ytekacbjnpeglhaa.OBan.at_ M0_1.out lt_52
                  obtain rfl := Option.some.inj (gt_52.out.symm.trans z_t_52)
                  simp only [Option.some.injEq, Addr.mk.injEq] at At_52
                  obtain ⟨rfl, rfl, _⟩ := At_52
                  have ltt_52 := cell_lt ct_52_0
                  replace ct_52_0 := cell_below HBw_b_36.out ct_52_0
                  replace ct_52_1 := cell_below HBw_b_36.out ct_52_1
                  replace ct_52_2 := cell_below HBw_b_36.out ct_52_2
                  replace ct_52_3 := cell_below HBw_b_36.out ct_52_3
                  clear z_t_52
                  have b0t_52 : (0 : Int) ≤ (nt_52 : Int) := by omega
                  have b1t_52 : (nt_52 : Int) < ((t_bans.length : Nat) : Int) := by omega
                  have b2t_52 : ((nt_52 : Int)).toNat = nt_52 := by omega
                  have Hct_52_0 := Lib.hid ct_52_0
                  replace ct_52_0 := cell_regrown ct_52_0
                  have Hct_52_1 := Lib.hid ct_52_1
                  replace ct_52_1 := cell_regrown ct_52_1
                  have Hct_52_2 := Lib.hid ct_52_2
                  replace ct_52_2 := cell_regrown ct_52_2
                  have Hct_52_3 := Lib.hid ct_52_3
                  replace ct_52_3 := cell_regrown ct_52_3
                  replace H := bind_hid H
                  obtain ⟨t_55, qt_55, H⟩ := H
                  have nt_55 : ∀ d os, Calls Try.prog 57 #[.agg #[.int .i64 t_52_a, .int .i64 t_52_x, .int .i64 t_52_b, .int .i64 t_52_y], .agg #[.int .i64 t_34_a, .int .i64 t_34_x, .int .i64 t_34_b, .int .i64 t_34_y]] (Go.Sort.grow (redrawn w_b_36 d) os) fun e w'' => e = .returned (.int .i64 t_55) ∧ ∃ p : Regrown, w'' = Go.Sort.grow (redrawn w_b_36 p.d) p.os := fun d os => Calls.regrown_of (Go.Proofs.Ytekacbjnpeglhaa.GiCompareBans.C ((Go.Proofs.Ytekacbjnpeglhaa.PBan.Ban.mk t_52_a t_52_x t_52_b t_52_y)) ((Go.Proofs.Ytekacbjnpeglhaa.PBan.Ban.mk t_34_a t_34_x t_34_b t_34_y))  _    qt_55)
                  replace H := let_hid H
                  obtain ⟨t_56, ht_56, H⟩ := H
                  replace H := app_hid H
                  replace H := app_hid H
                  refine wp_region_quiet_below (by kernel_rfl) (by kernel_rfl) ?_
                  repeat (go_big_quiet_step (first | (go_at_call 56; exact nt_42 _ _) | (go_at_call 57; exact nt_55 _ _)))
                  refine wpQuiet_nil ?_
                  intro Y12 hY12
                  replace hY12 := below_class hY12
                  clear nt_42 nt_55
                  replace kt_0_0__132 := Hkt_0_0__132.out
                  clear Hkt_0_0__132
                  replace kt_0_1__133 := Hkt_0_1__133.out
                  clear Hkt_0_1__133
                  replace ct_34_0__134 := Hct_34_0__134.out
                  clear Hct_34_0__134
                  replace ct_34_1__135 := Hct_34_1__135.out
                  clear Hct_34_1__135
                  replace ct_34_2__136 := Hct_34_2__136.out
                  clear Hct_34_2__136
                  replace ct_34_3__137 := Hct_34_3__137.out
                  clear Hct_34_3__137
                  replace kb_36_0 := Hkb_36_0.out
                  clear Hkb_36_0
                  replace kb_36_1 := Hkb_36_1.out
                  clear Hkb_36_1
                  replace kb_36_2 := Hkb_36_2.out
                  clear Hkb_36_2
                  replace kb_36_3 := Hkb_36_3.out
                  clear Hkb_36_3
                  replace ct_52_0 := Hct_52_0.out
                  clear Hct_52_0
                  replace ct_52_1 := Hct_52_1.out
                  clear Hct_52_1
                  replace ct_52_2 := Hct_52_2.out
                  clear Hct_52_2
                  replace ct_52_3 := Hct_52_3.out
                  clear Hct_52_3
                  have HBY12 := Lib.hid (Below.step HBw_b_36.out hY12)
                  replace kt_0_0__132 := cell_below hY12 kt_0_0__132
                  replace kt_0_1__133 := cell_below hY12 kt_0_1__133
                  replace ct_34_0__134 := cell_below hY12 ct_34_0__134
                  replace ct_34_1__135 := cell_below hY12 ct_34_1__135
                  replace ct_34_2__136 := cell_below hY12 ct_34_2__136
                  replace ct_34_3__137 := cell_below hY12 ct_34_3__137
                  replace kb_36_0 := cell_below hY12 kb_36_0
                  replace kb_36_1 := cell_below hY12 kb_36_1
                  replace kb_36_2 := cell_below hY12 kb_36_2
                  replace kb_36_3 := cell_below hY12 kb_36_3
                  replace ct_52_0 := cell_below hY12 ct_52_0
                  replace ct_52_1 := cell_below hY12 ct_52_1
                  replace ct_52_2 := cell_below hY12 ct_52_2
                  replace ct_52_3 := cell_below hY12 ct_52_3
                  clear hY12
                  cases t_56 with
                  | false =>
                    replace H := ite_f H
                    replace H := app_hid H
                    go_wp2_with fail
                    go_roundg m1
                    case measure => omega
                    case rel => exact ⟨k1 + 1, by omega, by go_num, H, HBY12, kt_0_0__132, kt_0_1__133⟩
                  | true =>
                    replace H := ite_t H
                    obtain rfl := ret_hid H
                    go_wp2_with fail
                    go_ret
                    exact ⟨rfl, HBY12.out⟩
        | succ m0 =>
          have hlt0 : k0 < t_sizes.length := by omega
          have hc0 : decide ((k0 : Int) < ((t_sizes.length : Nat) : Int)) = true := by simp; omega
          replace H := cnt_succ H
          unfold l0 at H
          replace H := idx_hid H
          obtain ⟨nt_19, yt_19, et_19, lt_19, gt_19, H⟩ := H
          obtain rfl : k0 = nt_19 := by omega
          clear et_19
          obtain ⟨ab_t_19, ao_t_19, zt_19, At_19, z_t_19, ct_19_0⟩ := Go.Proofs.Ytekacbjnpeglhaa.HelpInt.Ints.at_ M0_0.out lt_19
          obtain rfl := Option.some.inj (gt_19.out.symm.trans z_t_19)
          subst At_19
          have ltt_19 := cell_lt ct_19_0
          replace ct_19_0 := cell_below HBwr0.out ct_19_0
          clear z_t_19
          have b0t_19 : (0 : Int) ≤ (k0 : Int) := by omega
          have b1t_19 : (k0 : Int) < ((t_sizes.length : Nat) : Int) := by omega
          have b2t_19 : ((k0 : Int)).toNat = k0 := by omega
          replace H := bind_hid H
          obtain ⟨t_23, qt_23, H⟩ := H
          go_wp2_with fail
          go_at_call 55
          refine (Go.Proofs.Ytekacbjnpeglhaa.GiWithin.C (yt_19) (1) (5)  _    qt_23).mono ?_
          rintro e_t_23 wt_23 ⟨rfl, bt_23⟩
          have HBwt_23 := Lib.hid (Below.step HBwr0.out bt_23)
          replace kt_0_0 := cell_below bt_23 kt_0_0
          replace kt_0_1 := cell_below bt_23 kt_0_1
          replace ct_19_0 := cell_below bt_23 ct_19_0
          clear bt_23
          cases t_23 with
          | false =>
            replace H := let_hid H
            obtain ⟨t_24, ht_24, H⟩ := H
            obtain rfl : t_24 = true := ht_24.symm
            replace H := ite_t H
            obtain rfl := ret_hid H
            go_wp2_with fail
            go_ret
            exact ⟨rfl, HBwt_23.out⟩
          | true =>
            replace H := let_hid H
            obtain ⟨t_24, ht_24, H⟩ := H
            obtain rfl : t_24 = false := ht_24.symm
            replace H := ite_f H
            replace H := app_hid H
            go_wp2_with fail
            go_roundg m0
            case measure => omega
            case rel => exact ⟨k0 + 1, by omega, by go_num, H, HBwt_23, kt_0_0, kt_0_1⟩
    | true =>
      have nht_11 : 20 < t_bans.length := by have := of_decide_eq_true ht_11; omega
      replace H := ite_t H
      obtain rfl := ret_hid H
      go_wp2_with fail
      go_ret
      exact ⟨rfl, HBwt_5.out⟩
end Go.Proofs.Ytekacbjnpeglhaa.GiIsKindTable

/- loop.example/g01062/impl.isKind as a plain function, and the contract of the program's: where the plain one has an answer, the program has it. Conditions: slices read as lists. -/
namespace Go.Proofs.Ytekacbjnpeglhaa.GiIsKind
set_option linter.unusedVariables false
set_option linter.unusedSimpArgs false
open Go.RowKit
open Go.Proofs.Ytekacbjnpeglhaa.Rowed Go.Proofs.Ytekacbjnpeglhaa.Turn Go.Proofs.Ytekacbjnpeglhaa.Aid Go.Proofs.Ytekacbjnpeglhaa.GoP Go.Proofs.Ytekacbjnpeglhaa.GoM

def l0 (t_sizes : (List Int)) (kind : (List Int)) (k0 : Nat) (s : Unit) (nx0 bk0 : Unit → Option (Bool)) : Option (Bool) :=
  
  Option.bind (idx kind (k0 : Int)) fun (yt_19 : Int) =>
  Option.bind (Go.Proofs.Ytekacbjnpeglhaa.GiHasValue.P t_sizes (k0 : Int) yt_19) fun (t_27 : Bool) =>
  letK (!t_27) fun (t_28 : Bool) =>
  iteK t_28
  (some false)
  (appK nx0 ())

def e0  (s : Unit) : Option (Bool) :=
  
  some true

def P (t_sizes : (List Int)) (t_bans : (List Go.Proofs.Ytekacbjnpeglhaa.PBan.Ban)) (kind : (List Int)) : Option (Bool) :=
  Option.bind (Go.Proofs.Ytekacbjnpeglhaa.GiIsKindTable.P t_sizes t_bans) fun (t_3 : Bool) =>
  letK (!t_3) fun (t_4 : Bool) =>
  joinK (fun (t_12 : Bool) =>
  iteK t_12
  (some false)
  (cntK (l0 t_sizes kind) (kind.length) 0 () (e0 ))) fun jt_12 => iteK t_4 (appK jt_12 true) (letK ((kind.length : Int) != (t_sizes.length : Int)) fun (t_11 : Bool) =>
  appK jt_12 t_11)

set_option maxRecDepth 100000 in
set_option maxHeartbeats 2000000 in
theorem C (t_sizes : (List Int)) (t_bans : (List Go.Proofs.Ytekacbjnpeglhaa.PBan.Ban)) (kind : (List Int)) (A0_0 : Option Addr) (c0_0 : Nat) (A0_1 : Option Addr) (c0_1 : Nat) (A1 : Option Addr) (c1 : Nat)  (w : World) (M0_0 : Hid (Cells w 1 A0_0 t_sizes.length (Go.Proofs.Ytekacbjnpeglhaa.HelpInt.iv t_sizes))) (N0_0 : Hid (t_sizes.length ≤ 9223372036854775807)) (M0_1 : Hid (Cells w 4 A0_1 t_bans.length (Go.Proofs.Ytekacbjnpeglhaa.PBan.flat t_bans))) (N0_1 : Hid (t_bans.length ≤ 9223372036854775807)) (M1 : Hid (Cells w 1 A1 kind.length (Go.Proofs.Ytekacbjnpeglhaa.HelpInt.iv kind))) (N1 : Hid (kind.length ≤ 9223372036854775807))  {r : Bool} (H : Hid (P t_sizes t_bans kind = some r)) :
    Calls Try.prog 61 #[.agg #[.slice A0_0 t_sizes.length c0_0, .slice A0_1 t_bans.length c0_1], .slice A1 kind.length c1] w (Gives (.bool r) w) := by
  have HB := Lib.hid (Below.refl w.heap.size w)
  unfold P at H
  have N0_0o := N0_0.out
  have N0_1o := N0_1.out
  have N1o := N1.out
  go_enter Try.func61, Try.ntmps61
  obtain ⟨w_t_0, hw_t_0⟩ : ∃ x, w.alloc (.cells #[.slice A0_0 t_sizes.length c0_0, .slice A0_1 t_bans.length c0_1] 30) = x := ⟨_, rfl⟩
  have bw_t_0 : Below w.heap.size w w_t_0 := by rw [← hw_t_0]; exact (Below.refl _ _).alloc (Nat.le_refl _) _
  have HBw_t_0 := Lib.hid (Below.step HB.out bw_t_0)
  clear bw_t_0
  have kt_0_0 : w_t_0.cell? ⟨w.heap.size, 0, none⟩ = some (.slice A0_0 t_sizes.length c0_0) := by rw [← hw_t_0]; exact box_new _ _ _ 0 _ rfl
  have kt_0_1 : w_t_0.cell? ⟨w.heap.size, 1, none⟩ = some (.slice A0_1 t_bans.length c0_1) := by rw [← hw_t_0]; exact box_new _ _ _ 1 _ rfl
  replace H := bind_hid H
  obtain ⟨t_3, qt_3, H⟩ := H
  go_wp2_with fail
  go_at_call 16
  refine (Go.Proofs.Ytekacbjnpeglhaa.GiIsKindTable.C (t_sizes) (t_bans) A0_0 c0_0 A0_1 c0_1 _   (Lib.hid (Cells.below M0_0.out HBw_t_0.out)) N0_0 (Lib.hid (Cells.below M0_1.out HBw_t_0.out)) N0_1 qt_3).mono ?_
  rintro e_t_3 wt_3 ⟨rfl, bt_3⟩
  have HBwt_3 := Lib.hid (Below.step HBw_t_0.out bt_3)
  replace kt_0_0 := cell_below bt_3 kt_0_0
  replace kt_0_1 := cell_below bt_3 kt_0_1
  clear bt_3
  cases t_3 with
  | false =>
    replace H := let_hid H
    obtain ⟨t_4, ht_4, H⟩ := H
    obtain rfl : t_4 = true := ht_4.symm
    replace H := join_hid H
    replace H := ite_t H
    replace H := app_hid H
    replace H := ite_t H
    obtain rfl := ret_hid H
    go_wp2_with fail
    go_ret
    exact ⟨rfl, HBwt_3.out⟩
  | true =>
    replace H := let_hid H
    obtain ⟨t_4, ht_4, H⟩ := H
    obtain rfl : t_4 = false := ht_4.symm
    replace H := join_hid H
    replace H := ite_f H
    replace H := let_hid H
    obtain ⟨t_11, ht_11, H⟩ := H
    replace H := app_hid H
    cases t_11 with
    | false =>
      have Hht_11 : Hid (kind.length = t_sizes.length) := Lib.hid (by have := bne_eq_false_iff_eq.1 ht_11; omega)
      have nht_11 : (kind.length == t_sizes.length) = true := beq_iff_eq.2 Hht_11.out
      replace H := ite_f H
      go_wp2_with fail
      go_loopg [20] (kind.length) (fun m_ v20_ wr => ∃ (k0 : Nat) , k0 + m_ = kind.length ∧ v20_ = .int .i64 (k0 : Int) ∧ Hid (cntK (l0 t_sizes kind) m_ k0 () (e0 ) = some r) ∧ Hid (Below w.heap.size w wr) ∧ wr.cell? ⟨w.heap.size, 0, none⟩ = some (.slice A0_0 t_sizes.length c0_0) ∧ wr.cell? ⟨w.heap.size, 1, none⟩ = some (.slice A0_1 t_bans.length c0_1))
      case atStart => exact ⟨0, by omega, rfl, H, HBwt_3, kt_0_0, kt_0_1⟩
      case round =>
        obtain ⟨k0, hkm0, rfl, H, HBwr0, kt_0_0, kt_0_1⟩ := hrel
        rename World => wr0
        cases gk with
        | zero =>
          obtain rfl : k0 = kind.length := by omega
          have hc0 : decide (((kind.length : Nat) : Int) < ((kind.length : Nat) : Int)) = false := by simp
          replace H := cnt_zero H
          unfold e0 at H
          obtain rfl := ret_hid H
          go_wp2_with fail
          go_ret
          exact ⟨rfl, HBwr0.out⟩
        | succ m0 =>
          have hlt0 : k0 < kind.length := by omega
          have hc0 : decide ((k0 : Int) < ((kind.length : Nat) : Int)) = true := by simp; omega
          replace H := cnt_succ H
          unfold l0 at H
          replace H := idx_hid H
          obtain ⟨nt_19, yt_19, et_19, lt_19, gt_19, H⟩ := H
          obtain rfl : k0 = nt_19 := by omega
          clear et_19
          obtain ⟨ab_t_19, ao_t_19, zt_19, At_19, z_t_19, ct_19_0⟩ := Go.Proofs.Ytekacbjnpeglhaa.HelpInt.Ints.at_ M1.out lt_19
          obtain rfl := Option.some.inj (gt_19.out.symm.trans z_t_19)
          subst At_19
          have ltt_19 := cell_lt ct_19_0
          replace ct_19_0 := cell_below HBwr0.out ct_19_0
          clear z_t_19
          have b0t_19 : (0 : Int) ≤ (k0 : Int) := by omega
          have b1t_19 : (k0 : Int) < ((kind.length : Nat) : Int) := by omega
          have b2t_19 : ((k0 : Int)).toNat = k0 := by omega
          replace H := bind_hid H
          obtain ⟨t_27, qt_27, H⟩ := H
          go_wp2_with fail
          go_at_call 73
          refine (Go.Proofs.Ytekacbjnpeglhaa.GiHasValue.C (t_sizes) ((k0 : Int)) (yt_19) A0_0 c0_0 _   (Lib.hid (Cells.below M0_0.out HBwr0.out)) N0_0 qt_27).mono ?_
          rintro e_t_27 wt_27 ⟨rfl, bt_27⟩
          have HBwt_27 := Lib.hid (Below.step HBwr0.out bt_27)
          replace kt_0_0 := cell_below bt_27 kt_0_0
          replace kt_0_1 := cell_below bt_27 kt_0_1
          replace ct_19_0 := cell_below bt_27 ct_19_0
          clear bt_27
          cases t_27 with
          | false =>
            replace H := let_hid H
            obtain ⟨t_28, ht_28, H⟩ := H
            obtain rfl : t_28 = true := ht_28.symm
            replace H := ite_t H
            obtain rfl := ret_hid H
            go_wp2_with fail
            go_ret
            exact ⟨rfl, HBwt_27.out⟩
          | true =>
            replace H := let_hid H
            obtain ⟨t_28, ht_28, H⟩ := H
            obtain rfl : t_28 = false := ht_28.symm
            replace H := ite_f H
            replace H := app_hid H
            go_wp2_with fail
            go_roundg m0
            case measure => omega
            case rel => exact ⟨k0 + 1, by omega, by go_num, H, HBwt_27, kt_0_0, kt_0_1⟩
    | true =>
      have nht_11 : ¬ (kind.length = t_sizes.length) := by have := bne_iff_ne.1 ht_11; omega
      replace H := ite_t H
      obtain rfl := ret_hid H
      go_wp2_with fail
      go_ret
      exact ⟨rfl, HBwt_3.out⟩
end Go.Proofs.Ytekacbjnpeglhaa.GiIsKind

/- loop.example/g01062/impl.forbids as a plain function, and the contract of the program's: where the plain one has an answer, the program has it. Conditions: slices read as lists. -/
namespace Go.Proofs.Ytekacbjnpeglhaa.GiForbids
set_option linter.unusedVariables false
set_option linter.unusedSimpArgs false
open Go.RowKit
open Go.Proofs.Ytekacbjnpeglhaa.Rowed Go.Proofs.Ytekacbjnpeglhaa.Turn Go.Proofs.Ytekacbjnpeglhaa.Aid Go.Proofs.Ytekacbjnpeglhaa.GoP Go.Proofs.Ytekacbjnpeglhaa.GoM

def P (b : Go.Proofs.Ytekacbjnpeglhaa.PBan.Ban) (kind : (List Int)) : Option (Bool) :=
  unBan b fun (b_a : Int) (b_x : Int) (b_b : Int) (b_y : Int) =>
  Option.bind (idx kind b_a) fun (yt_5 : Int) =>
  letK (yt_5 == b_x) fun (t_9 : Bool) =>
  joinK (fun (t_19 : Bool) =>
  some t_19) fun jt_19 => iteK t_9 (Option.bind (idx kind b_b) fun (yt_14 : Int) =>
  letK (yt_14 == b_y) fun (t_18 : Bool) =>
  appK jt_19 t_18) (appK jt_19 false)

set_option maxRecDepth 100000 in
set_option maxHeartbeats 2000000 in
theorem C (b : Go.Proofs.Ytekacbjnpeglhaa.PBan.Ban) (kind : (List Int)) (A1 : Option Addr) (c1 : Nat)  (w : World) (M1 : Hid (Cells w 1 A1 kind.length (Go.Proofs.Ytekacbjnpeglhaa.HelpInt.iv kind))) (N1 : Hid (kind.length ≤ 9223372036854775807))  {r : Bool} (H : Hid (P b kind = some r)) :
    Calls Try.prog 64 #[b.val, .slice A1 kind.length c1] w (Gives (.bool r) w) := by
  have HB := Lib.hid (Below.refl w.heap.size w)
  unfold P at H
  obtain ⟨b_a, b_x, b_b, b_y⟩ := b
  replace H := unBan_hid H
  unfold Go.Proofs.Ytekacbjnpeglhaa.PBan.Ban.val
  have N1o := N1.out
  go_enter Try.func64, Try.ntmps64
  obtain ⟨w_b_0, hw_b_0⟩ : ∃ x, w.alloc (.cells #[.int .i64 b_a, .int .i64 b_x, .int .i64 b_b, .int .i64 b_y] 57) = x := ⟨_, rfl⟩
  have bw_b_0 : Below w.heap.size w w_b_0 := by rw [← hw_b_0]; exact (Below.refl _ _).alloc (Nat.le_refl _) _
  have HBw_b_0 := Lib.hid (Below.step HB.out bw_b_0)
  clear bw_b_0
  have kb_0_0 : w_b_0.cell? ⟨w.heap.size, 0, none⟩ = some (.int .i64 b_a) := by rw [← hw_b_0]; exact box_new _ _ _ 0 _ rfl
  have kb_0_1 : w_b_0.cell? ⟨w.heap.size, 1, none⟩ = some (.int .i64 b_x) := by rw [← hw_b_0]; exact box_new _ _ _ 1 _ rfl
  have kb_0_2 : w_b_0.cell? ⟨w.heap.size, 2, none⟩ = some (.int .i64 b_b) := by rw [← hw_b_0]; exact box_new _ _ _ 2 _ rfl
  have kb_0_3 : w_b_0.cell? ⟨w.heap.size, 3, none⟩ = some (.int .i64 b_y) := by rw [← hw_b_0]; exact box_new _ _ _ 3 _ rfl
  go_wp2_with fail
  have Hkb_0_0 := Lib.hid kb_0_0
  replace kb_0_0 := cell_regrown kb_0_0
  have Hkb_0_1 := Lib.hid kb_0_1
  replace kb_0_1 := cell_regrown kb_0_1
  have Hkb_0_2 := Lib.hid kb_0_2
  replace kb_0_2 := cell_regrown kb_0_2
  have Hkb_0_3 := Lib.hid kb_0_3
  replace kb_0_3 := cell_regrown kb_0_3
  replace H := idx_hid H
  obtain ⟨nt_5, yt_5, et_5, lt_5, gt_5, H⟩ := H
  subst et_5
  obtain ⟨ab_t_5, ao_t_5, zt_5, At_5, z_t_5, ct_5_0⟩ := Go.Proofs.Ytekacbjnpeglhaa.HelpInt.Ints.at_ M1.out lt_5
  obtain rfl := Option.some.inj (gt_5.out.symm.trans z_t_5)
  subst At_5
  have ltt_5 := cell_lt ct_5_0
  replace ct_5_0 := cell_below HBw_b_0.out ct_5_0
  clear z_t_5
  have b0t_5 : (0 : Int) ≤ (nt_5 : Int) := by omega
  have b1t_5 : (nt_5 : Int) < ((kind.length : Nat) : Int) := by omega
  have b2t_5 : ((nt_5 : Int)).toNat = nt_5 := by omega
  have Hct_5_0 := Lib.hid ct_5_0
  replace ct_5_0 := cell_regrown ct_5_0
  replace H := let_hid H
  obtain ⟨t_9, ht_9, H⟩ := H
  replace H := join_hid H
  cases t_9 with
  | false =>
    replace H := ite_f H
    replace H := app_hid H
    refine wp_region_quiet_below (by kernel_rfl) (by kernel_rfl) ?_
    repeat (go_big_quiet_step (fail))
    refine wpQuiet_nil ?_
    intro Y1 hY1
    replace hY1 := below_class hY1
    replace kb_0_0 := Hkb_0_0.out
    clear Hkb_0_0
    replace kb_0_1 := Hkb_0_1.out
    clear Hkb_0_1
    replace kb_0_2 := Hkb_0_2.out
    clear Hkb_0_2
    replace kb_0_3 := Hkb_0_3.out
    clear Hkb_0_3
    replace ct_5_0 := Hct_5_0.out
    clear Hct_5_0
    have HBY1 := Lib.hid (Below.step HBw_b_0.out hY1)
    replace kb_0_0 := cell_below hY1 kb_0_0
    replace kb_0_1 := cell_below hY1 kb_0_1
    replace kb_0_2 := cell_below hY1 kb_0_2
    replace kb_0_3 := cell_below hY1 kb_0_3
    replace ct_5_0 := cell_below hY1 ct_5_0
    clear hY1
    obtain rfl := ret_hid H
    go_wp2_with fail
    go_ret
    exact ⟨rfl, HBY1.out⟩
  | true =>
    replace H := ite_t H
    replace H := idx_hid H
    obtain ⟨nt_14, yt_14, et_14, lt_14, gt_14, H⟩ := H
    subst et_14
    obtain ⟨ab_t_14, ao_t_14, zt_14, At_14, z_t_14, ct_14_0⟩ := Go.Proofs.Ytekacbjnpeglhaa.HelpInt.Ints.at_ M1.out lt_14
    obtain rfl := Option.some.inj (gt_14.out.symm.trans z_t_14)
    simp only [Option.some.injEq, Addr.mk.injEq] at At_14
    obtain ⟨rfl, rfl, _⟩ := At_14
    have ltt_14 := cell_lt ct_14_0
    replace ct_14_0 := cell_below HBw_b_0.out ct_14_0
    clear z_t_14
    have b0t_14 : (0 : Int) ≤ (nt_14 : Int) := by omega
    have b1t_14 : (nt_14 : Int) < ((kind.length : Nat) : Int) := by omega
    have b2t_14 : ((nt_14 : Int)).toNat = nt_14 := by omega
    have Hct_14_0 := Lib.hid ct_14_0
    replace ct_14_0 := cell_regrown ct_14_0
    replace H := let_hid H
    obtain ⟨t_18, ht_18, H⟩ := H
    replace H := app_hid H
    refine wp_region_quiet_below (by kernel_rfl) (by kernel_rfl) ?_
    repeat (go_big_quiet_step (fail))
    refine wpQuiet_nil ?_
    intro Y1 hY1
    replace hY1 := below_class hY1
    replace kb_0_0 := Hkb_0_0.out
    clear Hkb_0_0
    replace kb_0_1 := Hkb_0_1.out
    clear Hkb_0_1
    replace kb_0_2 := Hkb_0_2.out
    clear Hkb_0_2
    replace kb_0_3 := Hkb_0_3.out
    clear Hkb_0_3
    replace ct_5_0 := Hct_5_0.out
    clear Hct_5_0
    replace ct_14_0 := Hct_14_0.out
    clear Hct_14_0
    have HBY1 := Lib.hid (Below.step HBw_b_0.out hY1)
    replace kb_0_0 := cell_below hY1 kb_0_0
    replace kb_0_1 := cell_below hY1 kb_0_1
    replace kb_0_2 := cell_below hY1 kb_0_2
    replace kb_0_3 := cell_below hY1 kb_0_3
    replace ct_5_0 := cell_below hY1 ct_5_0
    replace ct_14_0 := cell_below hY1 ct_14_0
    clear hY1
    obtain rfl := ret_hid H
    go_wp2_with fail
    go_ret
    exact ⟨rfl, HBY1.out⟩
end Go.Proofs.Ytekacbjnpeglhaa.GiForbids

/- loop.example/g01062/impl.IsCompatible$1 as a plain function, and the contract of the program's: where the plain one has an answer, the program has it. Conditions: slices read as lists. -/
namespace Go.Proofs.Ytekacbjnpeglhaa.GiIsCompatible1
set_option linter.unusedVariables false
set_option linter.unusedSimpArgs false
open Go.RowKit
open Go.Proofs.Ytekacbjnpeglhaa.Rowed Go.Proofs.Ytekacbjnpeglhaa.Turn Go.Proofs.Ytekacbjnpeglhaa.Aid Go.Proofs.Ytekacbjnpeglhaa.GoP Go.Proofs.Ytekacbjnpeglhaa.GoM

def P (b : Go.Proofs.Ytekacbjnpeglhaa.PBan.Ban) (hq0 : (List Int)) : Option (Bool) :=
  unBan b fun (b_a : Int) (b_x : Int) (b_b : Int) (b_y : Int) =>
  Option.bind (Go.Proofs.Ytekacbjnpeglhaa.GiForbids.P (Go.Proofs.Ytekacbjnpeglhaa.PBan.Ban.mk b_a b_x b_b b_y) hq0) fun (t_4 : Bool) =>
  some t_4

set_option maxRecDepth 100000 in
set_option maxHeartbeats 2000000 in
theorem C (b : Go.Proofs.Ytekacbjnpeglhaa.PBan.Ban) (hq0 : (List Int)) (Ahq0 : Option Addr) (chq0 : Nat) (gq0 : Nat) (w : World) (Mhq0 : Hid (Cells w 1 Ahq0 hq0.length (Go.Proofs.Ytekacbjnpeglhaa.HelpInt.iv hq0))) (Nhq0 : Hid (hq0.length ≤ 9223372036854775807)) (Fq0h : Hid (w.cell? ⟨gq0, 0, none⟩ = some (.slice Ahq0 hq0.length chq0))) {r : Bool} (H : Hid (P b hq0 = some r)) :
    Calls Try.prog 63 #[b.val, .pointer (some ⟨gq0, 0, none⟩)] w (Gives (.bool r) w) := by
  have HB := Lib.hid (Below.refl w.heap.size w)
  unfold P at H
  obtain ⟨b_a, b_x, b_b, b_y⟩ := b
  replace H := unBan_hid H
  unfold Go.Proofs.Ytekacbjnpeglhaa.PBan.Ban.val
  have Nhq0o := Nhq0.out
  have Fq0 := Fq0h.out
  go_enter Try.func63, Try.ntmps63
  obtain ⟨w_b_0, hw_b_0⟩ : ∃ x, w.alloc (.cells #[.int .i64 b_a, .int .i64 b_x, .int .i64 b_b, .int .i64 b_y] 57) = x := ⟨_, rfl⟩
  have bw_b_0 : Below w.heap.size w w_b_0 := by rw [← hw_b_0]; exact (Below.refl _ _).alloc (Nat.le_refl _) _
  have HBw_b_0 := Lib.hid (Below.step HB.out bw_b_0)
  have Fq0__202 := cell_below bw_b_0 Fq0
  clear bw_b_0
  have kb_0_0 : w_b_0.cell? ⟨w.heap.size, 0, none⟩ = some (.int .i64 b_a) := by rw [← hw_b_0]; exact box_new _ _ _ 0 _ rfl
  have kb_0_1 : w_b_0.cell? ⟨w.heap.size, 1, none⟩ = some (.int .i64 b_x) := by rw [← hw_b_0]; exact box_new _ _ _ 1 _ rfl
  have kb_0_2 : w_b_0.cell? ⟨w.heap.size, 2, none⟩ = some (.int .i64 b_b) := by rw [← hw_b_0]; exact box_new _ _ _ 2 _ rfl
  have kb_0_3 : w_b_0.cell? ⟨w.heap.size, 3, none⟩ = some (.int .i64 b_y) := by rw [← hw_b_0]; exact box_new _ _ _ 3 _ rfl
  replace H := bind_hid H
  obtain ⟨t_4, qt_4, H⟩ := H
  go_wp2_with fail
  clear Fq0
  go_at_call 64
  refine (Go.Proofs.Ytekacbjnpeglhaa.GiForbids.C ((Go.Proofs.Ytekacbjnpeglhaa.PBan.Ban.mk b_a b_x b_b b_y)) (hq0) Ahq0 chq0 _   (Lib.hid (Cells.below Mhq0.out HBw_b_0.out)) Nhq0 qt_4).mono ?_
  rintro e_t_4 wt_4 ⟨rfl, bt_4⟩
  have HBwt_4 := Lib.hid (Below.step HBw_b_0.out bt_4)
  replace Fq0__202 := cell_below bt_4 Fq0__202
  replace kb_0_0 := cell_below bt_4 kb_0_0
  replace kb_0_1 := cell_below bt_4 kb_0_1
  replace kb_0_2 := cell_below bt_4 kb_0_2
  replace kb_0_3 := cell_below bt_4 kb_0_3
  clear bt_4
  obtain rfl := ret_hid H
  go_wp2_with fail
  go_ret
  exact ⟨rfl, HBwt_4.out⟩
end Go.Proofs.Ytekacbjnpeglhaa.GiIsCompatible1

/- slices.IndexFunc[[]loop.example/g01062/impl.Ban,loop.example/g01062/impl.Ban] as a plain function, and the contract of the program's: where the plain one has an answer, the program has it. Conditions: slices read as lists. -/
namespace Go.Proofs.Ytekacbjnpeglhaa.GxSlicesIndexFuncLoopExampleG01062ImplBanLoopExampleG01062ImplBaniIsCompatible1
set_option linter.unusedVariables false
set_option linter.unusedSimpArgs false
open Go.RowKit
open Go.Proofs.Ytekacbjnpeglhaa.Rowed Go.Proofs.Ytekacbjnpeglhaa.Turn Go.Proofs.Ytekacbjnpeglhaa.Aid Go.Proofs.Ytekacbjnpeglhaa.GoP Go.Proofs.Ytekacbjnpeglhaa.GoM

def l0 (s_0 : (List Go.Proofs.Ytekacbjnpeglhaa.PBan.Ban)) (hf1_0 : (List Int)) (k0 : Nat) (s : Unit) (nx0 bk0 : Unit → Option (Int)) : Option (Int) :=
  
  Option.bind (idx s_0 (k0 : Int)) fun (yt_10 : Go.Proofs.Ytekacbjnpeglhaa.PBan.Ban) =>
  unBan yt_10 fun (t_10_a : Int) (t_10_x : Int) (t_10_b : Int) (t_10_y : Int) =>
  Option.bind (Go.Proofs.Ytekacbjnpeglhaa.GiIsCompatible1.P (Go.Proofs.Ytekacbjnpeglhaa.PBan.Ban.mk t_10_a t_10_x t_10_b t_10_y) hf1_0) fun (t_12 : Bool) =>
  iteK t_12
  (some (k0 : Int))
  (appK nx0 ())

def e0  (s : Unit) : Option (Int) :=
  
  some (-1)

def P (s_0 : (List Go.Proofs.Ytekacbjnpeglhaa.PBan.Ban)) (hf1_0 : (List Int)) : Option (Int) :=
  cntK (l0 s_0 hf1_0) (s_0.length) 0 () (e0 )

set_option maxRecDepth 100000 in
set_option maxHeartbeats 2000000 in
theorem C (s_0 : (List Go.Proofs.Ytekacbjnpeglhaa.PBan.Ban)) (hf1_0 : (List Int)) (A0 : Option Addr) (c0 : Nat) (Ahf1_0 : Option Addr) (chf1_0 : Nat) (gf1_0 : Nat) (w : World) (M0 : Hid (Cells w 4 A0 s_0.length (Go.Proofs.Ytekacbjnpeglhaa.PBan.flat s_0))) (N0 : Hid (s_0.length ≤ 9223372036854775807)) (Mhf1_0 : Hid (Cells w 1 Ahf1_0 hf1_0.length (Go.Proofs.Ytekacbjnpeglhaa.HelpInt.iv hf1_0))) (Nhf1_0 : Hid (hf1_0.length ≤ 9223372036854775807)) (Ff1_0h : Hid (w.cell? ⟨gf1_0, 0, none⟩ = some (.slice Ahf1_0 hf1_0.length chf1_0))) {r : Int} (H : Hid (P s_0 hf1_0 = some r)) :
    Calls Try.prog 93 #[.slice A0 s_0.length c0, .func (.func 63) #[] #[.pointer (some ⟨gf1_0, 0, none⟩)]] w (Gives (.int .i64 r) w) := by
  have HB := Lib.hid (Below.refl w.heap.size w)
  unfold P at H
  have N0o := N0.out
  have Nhf1_0o := Nhf1_0.out
  have Ff1_0 := Ff1_0h.out
  go_enter Try.func93, Try.ntmps93
  go_wp2_with fail
  go_loopg [8] (s_0.length) (fun m_ v8_ wr => ∃ (k0 : Nat) , k0 + m_ = s_0.length ∧ v8_ = .int .i64 (k0 : Int) ∧ Hid (cntK (l0 s_0 hf1_0) m_ k0 () (e0 ) = some r) ∧ Hid (Below w.heap.size w wr) ∧ wr.cell? ⟨gf1_0, 0, none⟩ = some (.slice Ahf1_0 hf1_0.length chf1_0))
  case atStart => exact ⟨0, by omega, rfl, H, HB, Ff1_0⟩
  case round =>
    obtain ⟨k0, hkm0, rfl, H, HBwr0, Ff1_0⟩ := hrel
    rename World => wr0
    cases gk with
    | zero =>
      obtain rfl : k0 = s_0.length := by omega
      have hc0 : decide (((s_0.length : Nat) : Int) < ((s_0.length : Nat) : Int)) = false := by simp
      replace H := cnt_zero H
      unfold e0 at H
      obtain rfl := ret_hid H
      go_wp2_with fail
      go_ret
      exact ⟨rfl, HBwr0.out⟩
    | succ m0 =>
      have hlt0 : k0 < s_0.length := by omega
      have hc0 : decide ((k0 : Int) < ((s_0.length : Nat) : Int)) = true := by simp; omega
      replace H := cnt_succ H
      unfold l0 at H
      replace H := idx_hid H
      obtain ⟨nt_10, yt_10, et_10, lt_10, gt_10, H⟩ := H
      obtain rfl : k0 = nt_10 := by omega
      clear et_10
      obtain ⟨t_10_a, t_10_x, t_10_b, t_10_y⟩ := yt_10
      replace H := unBan_hid H
      obtain ⟨ab_t_10, ao_t_10, zt_10, At_10, z_t_10, ct_10_0, ct_10_1, ct_10_2, ct_10_3⟩ := Go.Proofs.Ytekacbjnpeglhaa.OBan.at_ M0.out lt_10
      obtain rfl := Option.some.inj (gt_10.out.symm.trans z_t_10)
      subst At_10
      have ltt_10 := cell_lt ct_10_0
      replace ct_10_0 := cell_below HBwr0.out ct_10_0
      replace ct_10_1 := cell_below HBwr0.out ct_10_1
      replace ct_10_2 := cell_below HBwr0.out ct_10_2
      replace ct_10_3 := cell_below HBwr0.out ct_10_3
      clear z_t_10
      have b0t_10 : (0 : Int) ≤ (k0 : Int) := by omega
      have b1t_10 : (k0 : Int) < ((s_0.length : Nat) : Int) := by omega
      have b2t_10 : ((k0 : Int)).toNat = k0 := by omega
      replace H := bind_hid H
      obtain ⟨t_12, qt_12, H⟩ := H
      go_wp2_with fail
      go_at_call 63
      refine (Go.Proofs.Ytekacbjnpeglhaa.GiIsCompatible1.C ((Go.Proofs.Ytekacbjnpeglhaa.PBan.Ban.mk t_10_a t_10_x t_10_b t_10_y)) (hf1_0) Ahf1_0 chf1_0 (gf1_0) _   (Lib.hid (Cells.below Mhf1_0.out HBwr0.out)) Nhf1_0 (Lib.hid Ff1_0) qt_12).mono ?_
      rintro e_t_12 wt_12 ⟨rfl, bt_12⟩
      have HBwt_12 := Lib.hid (Below.step HBwr0.out bt_12)
      replace Ff1_0 := cell_below bt_12 Ff1_0
      replace ct_10_0 := cell_below bt_12 ct_10_0
      replace ct_10_1 := cell_below bt_12 ct_10_1
      replace ct_10_2 := cell_below bt_12 ct_10_2
      replace ct_10_3 := cell_below bt_12 ct_10_3
      clear bt_12
      cases t_12 with
      | false =>
        replace H := ite_f H
        replace H := app_hid H
        go_wp2_with fail
        go_roundg m0
        case measure => omega
        case rel => exact ⟨k0 + 1, by omega, by go_num, H, HBwt_12, Ff1_0⟩
      | true =>
        replace H := ite_t H
        obtain rfl := ret_hid H
        go_wp2_with fail
        go_ret
        exact ⟨rfl, HBwt_12.out⟩
end Go.Proofs.Ytekacbjnpeglhaa.GxSlicesIndexFuncLoopExampleG01062ImplBanLoopExampleG01062ImplBaniIsCompatible1

/- slices.ContainsFunc[[]loop.example/g01062/impl.Ban,loop.example/g01062/impl.Ban] as a plain function, and the contract of the program's: where the plain one has an answer, the program has it. Conditions: slices read as lists. -/
namespace Go.Proofs.Ytekacbjnpeglhaa.GxSlicesContainsFuncLoopExampleG01062ImplBanLoopExampleG01062ImplBaniIsCompatible1
set_option linter.unusedVariables false
set_option linter.unusedSimpArgs false
open Go.RowKit
open Go.Proofs.Ytekacbjnpeglhaa.Rowed Go.Proofs.Ytekacbjnpeglhaa.Turn Go.Proofs.Ytekacbjnpeglhaa.Aid Go.Proofs.Ytekacbjnpeglhaa.GoP Go.Proofs.Ytekacbjnpeglhaa.GoM

def P (s_0 : (List Go.Proofs.Ytekacbjnpeglhaa.PBan.Ban)) (hf1_0 : (List Int)) : Option (Bool) :=
  Option.bind (Go.Proofs.Ytekacbjnpeglhaa.GxSlicesIndexFuncLoopExampleG01062ImplBanLoopExampleG01062ImplBaniIsCompatible1.P s_0 hf1_0) fun (t_3 : Int) =>
  letK (decide (0 ≤ t_3)) fun (t_4 : Bool) =>
  some t_4

set_option maxRecDepth 100000 in
set_option maxHeartbeats 2000000 in
theorem C (s_0 : (List Go.Proofs.Ytekacbjnpeglhaa.PBan.Ban)) (hf1_0 : (List Int)) (A0 : Option Addr) (c0 : Nat) (Ahf1_0 : Option Addr) (chf1_0 : Nat) (gf1_0 : Nat) (w : World) (M0 : Hid (Cells w 4 A0 s_0.length (Go.Proofs.Ytekacbjnpeglhaa.PBan.flat s_0))) (N0 : Hid (s_0.length ≤ 9223372036854775807)) (Mhf1_0 : Hid (Cells w 1 Ahf1_0 hf1_0.length (Go.Proofs.Ytekacbjnpeglhaa.HelpInt.iv hf1_0))) (Nhf1_0 : Hid (hf1_0.length ≤ 9223372036854775807)) (Ff1_0h : Hid (w.cell? ⟨gf1_0, 0, none⟩ = some (.slice Ahf1_0 hf1_0.length chf1_0))) {r : Bool} (H : Hid (P s_0 hf1_0 = some r)) :
    Calls Try.prog 62 #[.slice A0 s_0.length c0, .func (.func 63) #[] #[.pointer (some ⟨gf1_0, 0, none⟩)]] w (Gives (.bool r) w) := by
  have HB := Lib.hid (Below.refl w.heap.size w)
  unfold P at H
  have N0o := N0.out
  have Nhf1_0o := Nhf1_0.out
  have Ff1_0 := Ff1_0h.out
  go_enter Try.func62, Try.ntmps62
  replace H := bind_hid H
  obtain ⟨t_3, qt_3, H⟩ := H
  go_wp2_with fail
  go_at_call 93
  refine (Go.Proofs.Ytekacbjnpeglhaa.GxSlicesIndexFuncLoopExampleG01062ImplBanLoopExampleG01062ImplBaniIsCompatible1.C (s_0) (hf1_0) A0 c0 Ahf1_0 chf1_0 (gf1_0) _   (Lib.hid (Cells.below M0.out HB.out)) N0 (Lib.hid (Cells.below Mhf1_0.out HB.out)) Nhf1_0 (Lib.hid Ff1_0) qt_3).mono ?_
  rintro e_t_3 wt_3 ⟨rfl, bt_3⟩
  have HBwt_3 := Lib.hid (Below.step HB.out bt_3)
  replace Ff1_0 := cell_below bt_3 Ff1_0
  clear bt_3
  replace H := let_hid H
  obtain ⟨t_4, ht_4, H⟩ := H
  obtain rfl := ret_hid H
  go_wp2_with fail
  go_ret
  exact ⟨rfl, HBwt_3.out⟩
end Go.Proofs.Ytekacbjnpeglhaa.GxSlicesContainsFuncLoopExampleG01062ImplBanLoopExampleG01062ImplBaniIsCompatible1

/- loop.example/g01062/impl.IsCompatible as a plain function, and the contract of the program's: where the plain one has an answer, the program has it. Conditions: slices read as lists. -/
namespace Go.Proofs.Ytekacbjnpeglhaa.GiIsCompatible
set_option linter.unusedVariables false
set_option linter.unusedSimpArgs false
open Go.RowKit
open Go.Proofs.Ytekacbjnpeglhaa.Rowed Go.Proofs.Ytekacbjnpeglhaa.Turn Go.Proofs.Ytekacbjnpeglhaa.Aid Go.Proofs.Ytekacbjnpeglhaa.GoP Go.Proofs.Ytekacbjnpeglhaa.GoM

def P (t_sizes : (List Int)) (t_bans : (List Go.Proofs.Ytekacbjnpeglhaa.PBan.Ban)) (kind : (List Int)) : Option (Bool × Bool) :=
  Option.bind (Go.Proofs.Ytekacbjnpeglhaa.GiIsKind.P t_sizes t_bans kind) fun (t_6 : Bool) =>
  letK (!t_6) fun (t_7 : Bool) =>
  iteK t_7
  (some (false, false))
  (Option.bind (Go.Proofs.Ytekacbjnpeglhaa.GxSlicesContainsFuncLoopExampleG01062ImplBanLoopExampleG01062ImplBaniIsCompatible1.P t_bans kind) fun (t_13 : Bool) =>
  letK (!t_13) fun (t_16 : Bool) =>
  some (t_16, true))

set_option maxRecDepth 100000 in
set_option maxHeartbeats 2000000 in
theorem C (t_sizes : (List Int)) (t_bans : (List Go.Proofs.Ytekacbjnpeglhaa.PBan.Ban)) (kind : (List Int)) (A0_0 : Option Addr) (c0_0 : Nat) (A0_1 : Option Addr) (c0_1 : Nat) (A1 : Option Addr) (c1 : Nat)  (w : World) (M0_0 : Hid (Cells w 1 A0_0 t_sizes.length (Go.Proofs.Ytekacbjnpeglhaa.HelpInt.iv t_sizes))) (N0_0 : Hid (t_sizes.length ≤ 9223372036854775807)) (M0_1 : Hid (Cells w 4 A0_1 t_bans.length (Go.Proofs.Ytekacbjnpeglhaa.PBan.flat t_bans))) (N0_1 : Hid (t_bans.length ≤ 9223372036854775807)) (M1 : Hid (Cells w 1 A1 kind.length (Go.Proofs.Ytekacbjnpeglhaa.HelpInt.iv kind))) (N1 : Hid (kind.length ≤ 9223372036854775807))  {r0 : Bool} {r1 : Bool} (H : Hid (P t_sizes t_bans kind = some (r0, r1))) :
    Calls Try.prog 20 #[.agg #[.slice A0_0 t_sizes.length c0_0, .slice A0_1 t_bans.length c0_1], .slice A1 kind.length c1] w (Gives (.tuple #[.bool r0, .bool r1]) w) := by
  have HB := Lib.hid (Below.refl w.heap.size w)
  unfold P at H
  have N0_0o := N0_0.out
  have N0_1o := N0_1.out
  have N1o := N1.out
  go_enter Try.func20, Try.ntmps20
  obtain ⟨w_t_0, hw_t_0⟩ : ∃ x, w.alloc (.cells #[.slice A0_0 t_sizes.length c0_0, .slice A0_1 t_bans.length c0_1] 30) = x := ⟨_, rfl⟩
  have bw_t_0 : Below w.heap.size w w_t_0 := by rw [← hw_t_0]; exact (Below.refl _ _).alloc (Nat.le_refl _) _
  have HBw_t_0 := Lib.hid (Below.step HB.out bw_t_0)
  clear bw_t_0
  have kt_0_0 : w_t_0.cell? ⟨w.heap.size, 0, none⟩ = some (.slice A0_0 t_sizes.length c0_0) := by rw [← hw_t_0]; exact box_new _ _ _ 0 _ rfl
  have kt_0_1 : w_t_0.cell? ⟨w.heap.size, 1, none⟩ = some (.slice A0_1 t_bans.length c0_1) := by rw [← hw_t_0]; exact box_new _ _ _ 1 _ rfl
  obtain ⟨w_kind_1, hw_kind_1⟩ : ∃ x, w_t_0.alloc (.cells #[.slice A1 kind.length c1] 22) = x := ⟨_, rfl⟩
  have bw_kind_1 : Below w_t_0.heap.size w_t_0 w_kind_1 := by rw [← hw_kind_1]; exact (Below.refl _ _).alloc (Nat.le_refl _) _
  have HBw_kind_1 := Lib.hid (Below.step HBw_t_0.out bw_kind_1)
  have kt_0_0__203 := cell_below bw_kind_1 kt_0_0
  have kt_0_1__204 := cell_below bw_kind_1 kt_0_1
  clear bw_kind_1
  have kkind_1_0 : w_kind_1.cell? ⟨w_t_0.heap.size, 0, none⟩ = some (.slice A1 kind.length c1) := by rw [← hw_kind_1]; exact box_new _ _ _ 0 _ rfl
  replace H := bind_hid H
  obtain ⟨t_6, qt_6, H⟩ := H
  go_wp2_with fail
  clear kt_0_0 kt_0_1
  go_at_call 61
  refine (Go.Proofs.Ytekacbjnpeglhaa.GiIsKind.C (t_sizes) (t_bans) (kind) A0_0 c0_0 A0_1 c0_1 A1 c1 _   (Lib.hid (Cells.below M0_0.out HBw_kind_1.out)) N0_0 (Lib.hid (Cells.below M0_1.out HBw_kind_1.out)) N0_1 (Lib.hid (Cells.below M1.out HBw_kind_1.out)) N1 qt_6).mono ?_
  rintro e_t_6 wt_6 ⟨rfl, bt_6⟩
  have HBwt_6 := Lib.hid (Below.step HBw_kind_1.out bt_6)
  replace kt_0_0__203 := cell_below bt_6 kt_0_0__203
  replace kt_0_1__204 := cell_below bt_6 kt_0_1__204
  replace kkind_1_0 := cell_below bt_6 kkind_1_0
  clear bt_6
  cases t_6 with
  | false =>
    replace H := let_hid H
    obtain ⟨t_7, ht_7, H⟩ := H
    obtain rfl : t_7 = true := ht_7.symm
    replace H := ite_t H
    cases ret_hid H
    go_wp2_with fail
    go_ret2
    exact ⟨rfl, HBwt_6.out⟩
  | true =>
    replace H := let_hid H
    obtain ⟨t_7, ht_7, H⟩ := H
    obtain rfl : t_7 = false := ht_7.symm
    replace H := ite_f H
    replace H := bind_hid H
    obtain ⟨t_13, qt_13, H⟩ := H
    go_wp2_with fail
    go_at_call 62
    refine (Go.Proofs.Ytekacbjnpeglhaa.GxSlicesContainsFuncLoopExampleG01062ImplBanLoopExampleG01062ImplBaniIsCompatible1.C (t_bans) (kind) A0_1 c0_1 A1 c1 (w_t_0.heap.size) _   (Lib.hid (Cells.below M0_1.out HBwt_6.out)) N0_1 (Lib.hid (Cells.below M1.out HBwt_6.out)) N1 (Lib.hid kkind_1_0) qt_13).mono ?_
    rintro e_t_13 wt_13 ⟨rfl, bt_13⟩
    have HBwt_13 := Lib.hid (Below.step HBwt_6.out bt_13)
    replace kt_0_0__203 := cell_below bt_13 kt_0_0__203
    replace kt_0_1__204 := cell_below bt_13 kt_0_1__204
    replace kkind_1_0 := cell_below bt_13 kkind_1_0
    clear bt_13
    cases t_13 with
    | false =>
      replace H := let_hid H
      obtain ⟨t_16, ht_16, H⟩ := H
      obtain rfl : t_16 = true := ht_16.symm
      cases ret_hid H
      go_wp2_with fail
      go_ret2
      exact ⟨rfl, HBwt_13.out⟩
    | true =>
      replace H := let_hid H
      obtain ⟨t_16, ht_16, H⟩ := H
      obtain rfl : t_16 = false := ht_16.symm
      cases ret_hid H
      go_wp2_with fail
      go_ret2
      exact ⟨rfl, HBwt_13.out⟩
end Go.Proofs.Ytekacbjnpeglhaa.GiIsCompatible

/- loop.example/g01062/laws.eqIntS as a plain function, and the contract of the program's: where the plain one has an answer, the program has it. Conditions: slices read as lists. -/
namespace Go.Proofs.Ytekacbjnpeglhaa.GlEqIntS
set_option linter.unusedVariables false
set_option linter.unusedSimpArgs false
open Go.RowKit
open Go.Proofs.Ytekacbjnpeglhaa.Rowed Go.Proofs.Ytekacbjnpeglhaa.Turn Go.Proofs.Ytekacbjnpeglhaa.Aid Go.Proofs.Ytekacbjnpeglhaa.GoP Go.Proofs.Ytekacbjnpeglhaa.GoM

def l0 (a : (List Int)) (b : (List Int)) (k0 : Nat) (s : Unit) (nx0 bk0 : Unit → Option (Bool)) : Option (Bool) :=
  
  Option.bind (idx a (k0 : Int)) fun (yt_14 : Int) =>
  Option.bind (idx b (k0 : Int)) fun (yt_18 : Int) =>
  letK (yt_14 != yt_18) fun (t_20 : Bool) =>
  iteK t_20
  (some false)
  (appK nx0 ())

def e0  (s : Unit) : Option (Bool) :=
  
  some true

def P (a : (List Int)) (b : (List Int)) : Option (Bool) :=
  letK ((a.length : Int) != (b.length : Int)) fun (t_5 : Bool) =>
  iteK t_5
  (some false)
  (cntK (l0 a b) (a.length) 0 () (e0 ))

set_option maxRecDepth 100000 in
set_option maxHeartbeats 2000000 in
theorem C (a : (List Int)) (b : (List Int)) (A0 : Option Addr) (c0 : Nat) (A1 : Option Addr) (c1 : Nat)  (w : World) (M0 : Hid (Cells w 1 A0 a.length (Go.Proofs.Ytekacbjnpeglhaa.HelpInt.iv a))) (N0 : Hid (a.length ≤ 9223372036854775807)) (M1 : Hid (Cells w 1 A1 b.length (Go.Proofs.Ytekacbjnpeglhaa.HelpInt.iv b))) (N1 : Hid (b.length ≤ 9223372036854775807))  {r : Bool} (H : Hid (P a b = some r)) :
    Calls Try.prog 21 #[.slice A0 a.length c0, .slice A1 b.length c1] w (Gives (.bool r) w) := by
  have HB := Lib.hid (Below.refl w.heap.size w)
  unfold P at H
  have N0o := N0.out
  have N1o := N1.out
  go_enter Try.func21, Try.ntmps21
  replace H := let_hid H
  obtain ⟨t_5, ht_5, H⟩ := H
  cases t_5 with
  | false =>
    have Hht_5 : Hid (a.length = b.length) := Lib.hid (by have := bne_eq_false_iff_eq.1 ht_5; omega)
    have nht_5 : (a.length == b.length) = true := beq_iff_eq.2 Hht_5.out
    replace H := ite_f H
    go_wp2_with fail
    go_loopg [5] (a.length) (fun m_ v5_ wr => ∃ (k0 : Nat) , k0 + m_ = a.length ∧ v5_ = .int .i64 (k0 : Int) ∧ Hid (cntK (l0 a b) m_ k0 () (e0 ) = some r) ∧ Hid (Below w.heap.size w wr))
    case atStart => exact ⟨0, by omega, rfl, H, HB⟩
    case round =>
      obtain ⟨k0, hkm0, rfl, H, HBwr0⟩ := hrel
      rename World => wr0
      cases gk with
      | zero =>
        obtain rfl : k0 = a.length := by omega
        have hc0 : decide (((a.length : Nat) : Int) < ((a.length : Nat) : Int)) = false := by simp
        replace H := cnt_zero H
        unfold e0 at H
        obtain rfl := ret_hid H
        go_wp2_with fail
        go_ret
        exact ⟨rfl, HBwr0.out⟩
      | succ m0 =>
        have hlt0 : k0 < a.length := by omega
        have hc0 : decide ((k0 : Int) < ((a.length : Nat) : Int)) = true := by simp; omega
        replace H := cnt_succ H
        unfold l0 at H
        go_wp2_with fail
        replace H := idx_hid H
        obtain ⟨nt_14, yt_14, et_14, lt_14, gt_14, H⟩ := H
        obtain rfl : k0 = nt_14 := by omega
        clear et_14
        obtain ⟨ab_t_14, ao_t_14, zt_14, At_14, z_t_14, ct_14_0⟩ := Go.Proofs.Ytekacbjnpeglhaa.HelpInt.Ints.at_ M0.out lt_14
        obtain rfl := Option.some.inj (gt_14.out.symm.trans z_t_14)
        subst At_14
        have ltt_14 := cell_lt ct_14_0
        replace ct_14_0 := cell_below HBwr0.out ct_14_0
        clear z_t_14
        have b0t_14 : (0 : Int) ≤ (k0 : Int) := by omega
        have b1t_14 : (k0 : Int) < ((a.length : Nat) : Int) := by omega
        have b2t_14 : ((k0 : Int)).toNat = k0 := by omega
        have Hct_14_0 := Lib.hid ct_14_0
        replace ct_14_0 := cell_regrown ct_14_0
        replace H := idx_hid H
        obtain ⟨nt_18, yt_18, et_18, lt_18, gt_18, H⟩ := H
        obtain rfl : k0 = nt_18 := by omega
        clear et_18
        obtain ⟨ab_t_18, ao_t_18, zt_18, At_18, z_t_18, ct_18_0⟩ := Go.Proofs.Ytekacbjnpeglhaa.HelpInt.Ints.at_ M1.out lt_18
        obtain rfl := Option.some.inj (gt_18.out.symm.trans z_t_18)
        subst At_18
        have ltt_18 := cell_lt ct_18_0
        replace ct_18_0 := cell_below HBwr0.out ct_18_0
        clear z_t_18
        have b0t_18 : (0 : Int) ≤ (k0 : Int) := by omega
        have b1t_18 : (k0 : Int) < ((b.length : Nat) : Int) := by omega
        have b2t_18 : ((k0 : Int)).toNat = k0 := by omega
        have Hct_18_0 := Lib.hid ct_18_0
        replace ct_18_0 := cell_regrown ct_18_0
        replace H := let_hid H
        obtain ⟨t_20, ht_20, H⟩ := H
        refine wp_region_quiet_below (by kernel_rfl) (by kernel_rfl) ?_
        repeat (go_big_quiet_step (fail))
        refine wpQuiet_nil ?_
        intro Y6 hY6
        replace hY6 := below_class hY6
        replace ct_14_0 := Hct_14_0.out
        clear Hct_14_0
        replace ct_18_0 := Hct_18_0.out
        clear Hct_18_0
        have HBY6 := Lib.hid (Below.step HBwr0.out hY6)
        replace ct_14_0 := cell_below hY6 ct_14_0
        replace ct_18_0 := cell_below hY6 ct_18_0
        clear hY6
        cases t_20 with
        | false =>
          replace H := ite_f H
          replace H := app_hid H
          go_wp2_with fail
          go_roundg m0
          case measure => omega
          case rel => exact ⟨k0 + 1, by omega, by go_num, H, HBY6⟩
        | true =>
          replace H := ite_t H
          obtain rfl := ret_hid H
          go_wp2_with fail
          go_ret
          exact ⟨rfl, HBY6.out⟩
  | true =>
    have nht_5 : ¬ (a.length = b.length) := by have := bne_iff_ne.1 ht_5; omega
    replace H := ite_t H
    obtain rfl := ret_hid H
    go_wp2_with fail
    go_ret
    exact ⟨rfl, HB.out⟩
end Go.Proofs.Ytekacbjnpeglhaa.GlEqIntS

/- loop.example/g01062/laws.eqBan as a plain function, and the contract of the program's: where the plain one has an answer, the program has it. Conditions: slices read as lists. -/
namespace Go.Proofs.Ytekacbjnpeglhaa.GlEqBan
set_option linter.unusedVariables false
set_option linter.unusedSimpArgs false
open Go.RowKit
open Go.Proofs.Ytekacbjnpeglhaa.Rowed Go.Proofs.Ytekacbjnpeglhaa.Turn Go.Proofs.Ytekacbjnpeglhaa.Aid Go.Proofs.Ytekacbjnpeglhaa.GoP Go.Proofs.Ytekacbjnpeglhaa.GoM

def P (a : Go.Proofs.Ytekacbjnpeglhaa.PBan.Ban) (b : Go.Proofs.Ytekacbjnpeglhaa.PBan.Ban) : Option (Bool) :=
  unBan a fun (a_a : Int) (a_x : Int) (a_b : Int) (a_y : Int) =>
  unBan b fun (b_a : Int) (b_x : Int) (b_b : Int) (b_y : Int) =>
  letK (a_a != b_a) fun (t_7 : Bool) =>
  iteK t_7
  (some false)
  (letK (a_x != b_x) fun (t_13 : Bool) =>
  iteK t_13
  (some false)
  (letK (a_b != b_b) fun (t_19 : Bool) =>
  iteK t_19
  (some false)
  (letK (a_y != b_y) fun (t_25 : Bool) =>
  iteK t_25
  (some false)
  (some true))))

set_option maxRecDepth 100000 in
set_option maxHeartbeats 2000000 in
theorem C (a : Go.Proofs.Ytekacbjnpeglhaa.PBan.Ban) (b : Go.Proofs.Ytekacbjnpeglhaa.PBan.Ban)   (w : World)   {r : Bool} (H : Hid (P a b = some r)) :
    Calls Try.prog 92 #[a.val, b.val] w (Gives (.bool r) w) := by
  have HB := Lib.hid (Below.refl w.heap.size w)
  unfold P at H
  obtain ⟨a_a, a_x, a_b, a_y⟩ := a
  replace H := unBan_hid H
  obtain ⟨b_a, b_x, b_b, b_y⟩ := b
  replace H := unBan_hid H
  unfold Go.Proofs.Ytekacbjnpeglhaa.PBan.Ban.val
  go_enter Try.func92, Try.ntmps92
  obtain ⟨w_a_0, hw_a_0⟩ : ∃ x, w.alloc (.cells #[.int .i64 a_a, .int .i64 a_x, .int .i64 a_b, .int .i64 a_y] 57) = x := ⟨_, rfl⟩
  have bw_a_0 : Below w.heap.size w w_a_0 := by rw [← hw_a_0]; exact (Below.refl _ _).alloc (Nat.le_refl _) _
  have HBw_a_0 := Lib.hid (Below.step HB.out bw_a_0)
  clear bw_a_0
  have ka_0_0 : w_a_0.cell? ⟨w.heap.size, 0, none⟩ = some (.int .i64 a_a) := by rw [← hw_a_0]; exact box_new _ _ _ 0 _ rfl
  have ka_0_1 : w_a_0.cell? ⟨w.heap.size, 1, none⟩ = some (.int .i64 a_x) := by rw [← hw_a_0]; exact box_new _ _ _ 1 _ rfl
  have ka_0_2 : w_a_0.cell? ⟨w.heap.size, 2, none⟩ = some (.int .i64 a_b) := by rw [← hw_a_0]; exact box_new _ _ _ 2 _ rfl
  have ka_0_3 : w_a_0.cell? ⟨w.heap.size, 3, none⟩ = some (.int .i64 a_y) := by rw [← hw_a_0]; exact box_new _ _ _ 3 _ rfl
  obtain ⟨w_b_1, hw_b_1⟩ : ∃ x, w_a_0.alloc (.cells #[.int .i64 b_a, .int .i64 b_x, .int .i64 b_b, .int .i64 b_y] 57) = x := ⟨_, rfl⟩
  have bw_b_1 : Below w_a_0.heap.size w_a_0 w_b_1 := by rw [← hw_b_1]; exact (Below.refl _ _).alloc (Nat.le_refl _) _
  have HBw_b_1 := Lib.hid (Below.step HBw_a_0.out bw_b_1)
  have ka_0_0__164 := cell_below bw_b_1 ka_0_0
  have ka_0_1__165 := cell_below bw_b_1 ka_0_1
  have ka_0_2__166 := cell_below bw_b_1 ka_0_2
  have ka_0_3__167 := cell_below bw_b_1 ka_0_3
  clear bw_b_1
  have kb_1_0 : w_b_1.cell? ⟨w_a_0.heap.size, 0, none⟩ = some (.int .i64 b_a) := by rw [← hw_b_1]; exact box_new _ _ _ 0 _ rfl
  have kb_1_1 : w_b_1.cell? ⟨w_a_0.heap.size, 1, none⟩ = some (.int .i64 b_x) := by rw [← hw_b_1]; exact box_new _ _ _ 1 _ rfl
  have kb_1_2 : w_b_1.cell? ⟨w_a_0.heap.size, 2, none⟩ = some (.int .i64 b_b) := by rw [← hw_b_1]; exact box_new _ _ _ 2 _ rfl
  have kb_1_3 : w_b_1.cell? ⟨w_a_0.heap.size, 3, none⟩ = some (.int .i64 b_y) := by rw [← hw_b_1]; exact box_new _ _ _ 3 _ rfl
  replace H := let_hid H
  obtain ⟨t_7, ht_7, H⟩ := H
  cases t_7 with
  | false =>
    replace H := ite_f H
    replace H := let_hid H
    obtain ⟨t_13, ht_13, H⟩ := H
    cases t_13 with
    | false =>
      replace H := ite_f H
      replace H := let_hid H
      obtain ⟨t_19, ht_19, H⟩ := H
      cases t_19 with
      | false =>
        replace H := ite_f H
        replace H := let_hid H
        obtain ⟨t_25, ht_25, H⟩ := H
        cases t_25 with
        | false =>
          replace H := ite_f H
          obtain rfl := ret_hid H
          go_wp2_with fail
          go_ret
          exact ⟨rfl, HBw_b_1.out⟩
        | true =>
          replace H := ite_t H
          obtain rfl := ret_hid H
          go_wp2_with fail
          go_ret
          exact ⟨rfl, HBw_b_1.out⟩
      | true =>
        replace H := ite_t H
        obtain rfl := ret_hid H
        go_wp2_with fail
        go_ret
        exact ⟨rfl, HBw_b_1.out⟩
    | true =>
      replace H := ite_t H
      obtain rfl := ret_hid H
      go_wp2_with fail
      go_ret
      exact ⟨rfl, HBw_b_1.out⟩
  | true =>
    replace H := ite_t H
    obtain rfl := ret_hid H
    go_wp2_with fail
    go_ret
    exact ⟨rfl, HBw_b_1.out⟩
end Go.Proofs.Ytekacbjnpeglhaa.GlEqBan

/- loop.example/g01062/laws.eqBanS as a plain function, and the contract of the program's: where the plain one has an answer, the program has it. Conditions: slices read as lists. -/
namespace Go.Proofs.Ytekacbjnpeglhaa.GlEqBanS
set_option linter.unusedVariables false
set_option linter.unusedSimpArgs false
open Go.RowKit
open Go.Proofs.Ytekacbjnpeglhaa.Rowed Go.Proofs.Ytekacbjnpeglhaa.Turn Go.Proofs.Ytekacbjnpeglhaa.Aid Go.Proofs.Ytekacbjnpeglhaa.GoP Go.Proofs.Ytekacbjnpeglhaa.GoM

def l0 (a : (List Go.Proofs.Ytekacbjnpeglhaa.PBan.Ban)) (b : (List Go.Proofs.Ytekacbjnpeglhaa.PBan.Ban)) (k0 : Nat) (s : Unit) (nx0 bk0 : Unit → Option (Bool)) : Option (Bool) :=
  
  Option.bind (idx a (k0 : Int)) fun (yt_14 : Go.Proofs.Ytekacbjnpeglhaa.PBan.Ban) =>
  unBan yt_14 fun (t_14_a : Int) (t_14_x : Int) (t_14_b : Int) (t_14_y : Int) =>
  Option.bind (idx b (k0 : Int)) fun (yt_18 : Go.Proofs.Ytekacbjnpeglhaa.PBan.Ban) =>
  unBan yt_18 fun (t_18_a : Int) (t_18_x : Int) (t_18_b : Int) (t_18_y : Int) =>
  Option.bind (Go.Proofs.Ytekacbjnpeglhaa.GlEqBan.P (Go.Proofs.Ytekacbjnpeglhaa.PBan.Ban.mk t_14_a t_14_x t_14_b t_14_y) (Go.Proofs.Ytekacbjnpeglhaa.PBan.Ban.mk t_18_a t_18_x t_18_b t_18_y)) fun (t_20 : Bool) =>
  letK (!t_20) fun (t_21 : Bool) =>
  iteK t_21
  (some false)
  (appK nx0 ())

def e0  (s : Unit) : Option (Bool) :=
  
  some true

def P (a : (List Go.Proofs.Ytekacbjnpeglhaa.PBan.Ban)) (b : (List Go.Proofs.Ytekacbjnpeglhaa.PBan.Ban)) : Option (Bool) :=
  letK ((a.length : Int) != (b.length : Int)) fun (t_5 : Bool) =>
  iteK t_5
  (some false)
  (cntK (l0 a b) (a.length) 0 () (e0 ))

set_option maxRecDepth 100000 in
set_option maxHeartbeats 2000000 in
theorem C (a : (List Go.Proofs.Ytekacbjnpeglhaa.PBan.Ban)) (b : (List Go.Proofs.Ytekacbjnpeglhaa.PBan.Ban)) (A0 : Option Addr) (c0 : Nat) (A1 : Option Addr) (c1 : Nat)  (w : World) (M0 : Hid (Cells w 4 A0 a.length (Go.Proofs.Ytekacbjnpeglhaa.PBan.flat a))) (N0 : Hid (a.length ≤ 9223372036854775807)) (M1 : Hid (Cells w 4 A1 b.length (Go.Proofs.Ytekacbjnpeglhaa.PBan.flat b))) (N1 : Hid (b.length ≤ 9223372036854775807))  {r : Bool} (H : Hid (P a b = some r)) :
    Calls Try.prog 58 #[.slice A0 a.length c0, .slice A1 b.length c1] w (Gives (.bool r) w) := by
  have HB := Lib.hid (Below.refl w.heap.size w)
  unfold P at H
  have N0o := N0.out
  have N1o := N1.out
  go_enter Try.func58, Try.ntmps58
  replace H := let_hid H
  obtain ⟨t_5, ht_5, H⟩ := H
  cases t_5 with
  | false =>
    have Hht_5 : Hid (a.length = b.length) := Lib.hid (by have := bne_eq_false_iff_eq.1 ht_5; omega)
    have nht_5 : (a.length == b.length) = true := beq_iff_eq.2 Hht_5.out
    replace H := ite_f H
    go_wp2_with fail
    go_loopg [5] (a.length) (fun m_ v5_ wr => ∃ (k0 : Nat) , k0 + m_ = a.length ∧ v5_ = .int .i64 (k0 : Int) ∧ Hid (cntK (l0 a b) m_ k0 () (e0 ) = some r) ∧ Hid (Below w.heap.size w wr))
    case atStart => exact ⟨0, by omega, rfl, H, HB⟩
    case round =>
      obtain ⟨k0, hkm0, rfl, H, HBwr0⟩ := hrel
      rename World => wr0
      cases gk with
      | zero =>
        obtain rfl : k0 = a.length := by omega
        have hc0 : decide (((a.length : Nat) : Int) < ((a.length : Nat) : Int)) = false := by simp
        replace H := cnt_zero H
        unfold e0 at H
        obtain rfl := ret_hid H
        go_wp2_with fail
        go_ret
        exact ⟨rfl, HBwr0.out⟩
      | succ m0 =>
        have hlt0 : k0 < a.length := by omega
        have hc0 : decide ((k0 : Int) < ((a.length : Nat) : Int)) = true := by simp; omega
        replace H := cnt_succ H
        unfold l0 at H
        go_wp2_with fail
        replace H := idx_hid H
        obtain ⟨nt_14, yt_14, et_14, lt_14, gt_14, H⟩ := H
        obtain rfl : k0 = nt_14 := by omega
        clear et_14
        obtain ⟨t_14_a, t_14_x, t_14_b, t_14_y⟩ := yt_14
        replace H := unBan_hid H
        obtain ⟨ab_t_14, ao_t_14, zt_14, At_14, z_t_14, ct_14_0, ct_14_1, ct_14_2, ct_14_3⟩ := Go.Proofs.Ytekacbjnpeglhaa.OBan.at_ M0.out lt_14
        obtain rfl := Option.some.inj (gt_14.out.symm.trans z_t_14)
        subst At_14
        have ltt_14 := cell_lt ct_14_0
        replace ct_14_0 := cell_below HBwr0.out ct_14_0
        replace ct_14_1 := cell_below HBwr0.out ct_14_1
        replace ct_14_2 := cell_below HBwr0.out ct_14_2
        replace ct_14_3 := cell_below HBwr0.out ct_14_3
        clear z_t_14
        have b0t_14 : (0 : Int) ≤ (k0 : Int) := by omega
        have b1t_14 : (k0 : Int) < ((a.length : Nat) : Int) := by omega
        have b2t_14 : ((k0 : Int)).toNat = k0 := by omega
        have Hct_14_0 := Lib.hid ct_14_0
        replace ct_14_0 := cell_regrown ct_14_0
        have Hct_14_1 := Lib.hid ct_14_1
        replace ct_14_1 := cell_regrown ct_14_1
        have Hct_14_2 := Lib.hid ct_14_2
        replace ct_14_2 := cell_regrown ct_14_2
        have Hct_14_3 := Lib.hid ct_14_3
        replace ct_14_3 := cell_regrown ct_14_3
        replace H := idx_hid H
        obtain ⟨nt_18, yt_18, et_18, lt_18, gt_18, H⟩ := H
        obtain rfl : k0 = nt_18 := by omega
        clear et_18
        obtain ⟨t_18_a, t_18_x, t_18_b, t_18_y⟩ := yt_18
        replace H := unBan_hid H
        obtain ⟨ab_t_18, ao_t_18, zt_18, At_18, z_t_18, ct_18_0, ct_18_1, ct_18_2, ct_18_3⟩ := Go.Proofs.Ytekacbjnpeglhaa.OBan.at_ M1.out lt_18
        obtain rfl := Option.some.inj (gt_18.out.symm.trans z_t_18)
        subst At_18
        have ltt_18 := cell_lt ct_18_0
        replace ct_18_0 := cell_below HBwr0.out ct_18_0
        replace ct_18_1 := cell_below HBwr0.out ct_18_1
        replace ct_18_2 := cell_below HBwr0.out ct_18_2
        replace ct_18_3 := cell_below HBwr0.out ct_18_3
        clear z_t_18
        have b0t_18 : (0 : Int) ≤ (k0 : Int) := by omega
        have b1t_18 : (k0 : Int) < ((b.length : Nat) : Int) := by omega
        have b2t_18 : ((k0 : Int)).toNat = k0 := by omega
        have Hct_18_0 := Lib.hid ct_18_0
        replace ct_18_0 := cell_regrown ct_18_0
        have Hct_18_1 := Lib.hid ct_18_1
        replace ct_18_1 := cell_regrown ct_18_1
        have Hct_18_2 := Lib.hid ct_18_2
        replace ct_18_2 := cell_regrown ct_18_2
        have Hct_18_3 := Lib.hid ct_18_3
        replace ct_18_3 := cell_regrown ct_18_3
        replace H := bind_hid H
        obtain ⟨t_20, qt_20, H⟩ := H
        have nt_20 : ∀ d os, Calls Try.prog 92 #[.agg #[.int .i64 t_14_a, .int .i64 t_14_x, .int .i64 t_14_b, .int .i64 t_14_y], .agg #[.int .i64 t_18_a, .int .i64 t_18_x, .int .i64 t_18_b, .int .i64 t_18_y]] (Go.Sort.grow (redrawn wr0 d) os) fun e w'' => e = .returned (.bool t_20) ∧ ∃ p : Regrown, w'' = Go.Sort.grow (redrawn wr0 p.d) p.os := fun d os => Calls.regrown_of (Go.Proofs.Ytekacbjnpeglhaa.GlEqBan.C ((Go.Proofs.Ytekacbjnpeglhaa.PBan.Ban.mk t_14_a t_14_x t_14_b t_14_y)) ((Go.Proofs.Ytekacbjnpeglhaa.PBan.Ban.mk t_18_a t_18_x t_18_b t_18_y))  _    qt_20)
        cases t_20 with
        | false =>
          replace H := let_hid H
          obtain ⟨t_21, ht_21, H⟩ := H
          obtain rfl : t_21 = true := ht_21.symm
          refine wp_region_quiet_below (by kernel_rfl) (by kernel_rfl) ?_
          repeat (go_big_quiet_step (first | (go_at_call 92; exact nt_20 _ _)))
          refine wpQuiet_nil ?_
          intro Y6 hY6
          replace hY6 := below_class hY6
          clear nt_20
          replace ct_14_0 := Hct_14_0.out
          clear Hct_14_0
          replace ct_14_1 := Hct_14_1.out
          clear Hct_14_1
          replace ct_14_2 := Hct_14_2.out
          clear Hct_14_2
          replace ct_14_3 := Hct_14_3.out
          clear Hct_14_3
          replace ct_18_0 := Hct_18_0.out
          clear Hct_18_0
          replace ct_18_1 := Hct_18_1.out
          clear Hct_18_1
          replace ct_18_2 := Hct_18_2.out
          clear Hct_18_2
          replace ct_18_3 := Hct_18_3.out
          clear Hct_18_3
          have HBY6 := Lib.hid (Below.step HBwr0.out hY6)
          replace ct_14_0 := cell_below hY6 ct_14_0
          replace ct_14_1 := cell_below hY6 ct_14_1
          replace ct_14_2 := cell_below hY6 ct_14_2
          replace ct_14_3 := cell_below hY6 ct_14_3
          replace ct_18_0 := cell_below hY6 ct_18_0
          replace ct_18_1 := cell_below hY6 ct_18_1
          replace ct_18_2 := cell_below hY6 ct_18_2
          replace ct_18_3 := cell_below hY6 ct_18_3
          clear hY6
          replace H := ite_t H
          obtain rfl := ret_hid H
          go_wp2_with fail
          go_ret
          exact ⟨rfl, HBY6.out⟩
        | true =>
          replace H := let_hid H
          obtain ⟨t_21, ht_21, H⟩ := H
          obtain rfl : t_21 = false := ht_21.symm
          refine wp_region_quiet_below (by kernel_rfl) (by kernel_rfl) ?_
          repeat (go_big_quiet_step (first | (go_at_call 92; exact nt_20 _ _)))
          refine wpQuiet_nil ?_
          intro Y6 hY6
          replace hY6 := below_class hY6
          clear nt_20
          replace ct_14_0 := Hct_14_0.out
          clear Hct_14_0
          replace ct_14_1 := Hct_14_1.out
          clear Hct_14_1
          replace ct_14_2 := Hct_14_2.out
          clear Hct_14_2
          replace ct_14_3 := Hct_14_3.out
          clear Hct_14_3
          replace ct_18_0 := Hct_18_0.out
          clear Hct_18_0
          replace ct_18_1 := Hct_18_1.out
          clear Hct_18_1
          replace ct_18_2 := Hct_18_2.out
          clear Hct_18_2
          replace ct_18_3 := Hct_18_3.out
          clear Hct_18_3
          have HBY6 := Lib.hid (Below.step HBwr0.out hY6)
          replace ct_14_0 := cell_below hY6 ct_14_0
          replace ct_14_1 := cell_below hY6 ct_14_1
          replace ct_14_2 := cell_below hY6 ct_14_2
          replace ct_14_3 := cell_below hY6 ct_14_3
          replace ct_18_0 := cell_below hY6 ct_18_0
          replace ct_18_1 := cell_below hY6 ct_18_1
          replace ct_18_2 := cell_below hY6 ct_18_2
          replace ct_18_3 := cell_below hY6 ct_18_3
          clear hY6
          replace H := ite_f H
          replace H := app_hid H
          go_wp2_with fail
          go_roundg m0
          case measure => omega
          case rel => exact ⟨k0 + 1, by omega, by go_num, H, HBY6⟩
  | true =>
    have nht_5 : ¬ (a.length = b.length) := by have := bne_iff_ne.1 ht_5; omega
    replace H := ite_t H
    obtain rfl := ret_hid H
    go_wp2_with fail
    go_ret
    exact ⟨rfl, HB.out⟩
end Go.Proofs.Ytekacbjnpeglhaa.GlEqBanS

/- loop.example/g01062/laws.eqKindTable as a plain function, and the contract of the program's: where the plain one has an answer, the program has it. Conditions: slices read as lists. -/
namespace Go.Proofs.Ytekacbjnpeglhaa.GlEqKindTable
set_option linter.unusedVariables false
set_option linter.unusedSimpArgs false
open Go.RowKit
open Go.Proofs.Ytekacbjnpeglhaa.Rowed Go.Proofs.Ytekacbjnpeglhaa.Turn Go.Proofs.Ytekacbjnpeglhaa.Aid Go.Proofs.Ytekacbjnpeglhaa.GoP Go.Proofs.Ytekacbjnpeglhaa.GoM

def P (a_sizes : (List Int)) (a_bans : (List Go.Proofs.Ytekacbjnpeglhaa.PBan.Ban)) (b_sizes : (List Int)) (b_bans : (List Go.Proofs.Ytekacbjnpeglhaa.PBan.Ban)) : Option (Bool) :=
  Option.bind (Go.Proofs.Ytekacbjnpeglhaa.GlEqIntS.P a_sizes b_sizes) fun (t_7 : Bool) =>
  letK (!t_7) fun (t_8 : Bool) =>
  iteK t_8
  (some false)
  (Option.bind (Go.Proofs.Ytekacbjnpeglhaa.GlEqBanS.P a_bans b_bans) fun (t_14 : Bool) =>
  letK (!t_14) fun (t_15 : Bool) =>
  iteK t_15
  (some false)
  (some true))

set_option maxRecDepth 100000 in
set_option maxHeartbeats 2000000 in
theorem C (a_sizes : (List Int)) (a_bans : (List Go.Proofs.Ytekacbjnpeglhaa.PBan.Ban)) (b_sizes : (List Int)) (b_bans : (List Go.Proofs.Ytekacbjnpeglhaa.PBan.Ban)) (A0_0 : Option Addr) (c0_0 : Nat) (A0_1 : Option Addr) (c0_1 : Nat) (A1_0 : Option Addr) (c1_0 : Nat) (A1_1 : Option Addr) (c1_1 : Nat)  (w : World) (M0_0 : Hid (Cells w 1 A0_0 a_sizes.length (Go.Proofs.Ytekacbjnpeglhaa.HelpInt.iv a_sizes))) (N0_0 : Hid (a_sizes.length ≤ 9223372036854775807)) (M0_1 : Hid (Cells w 4 A0_1 a_bans.length (Go.Proofs.Ytekacbjnpeglhaa.PBan.flat a_bans))) (N0_1 : Hid (a_bans.length ≤ 9223372036854775807)) (M1_0 : Hid (Cells w 1 A1_0 b_sizes.length (Go.Proofs.Ytekacbjnpeglhaa.HelpInt.iv b_sizes))) (N1_0 : Hid (b_sizes.length ≤ 9223372036854775807)) (M1_1 : Hid (Cells w 4 A1_1 b_bans.length (Go.Proofs.Ytekacbjnpeglhaa.PBan.flat b_bans))) (N1_1 : Hid (b_bans.length ≤ 9223372036854775807))  {r : Bool} (H : Hid (P a_sizes a_bans b_sizes b_bans = some r)) :
    Calls Try.prog 17 #[.agg #[.slice A0_0 a_sizes.length c0_0, .slice A0_1 a_bans.length c0_1], .agg #[.slice A1_0 b_sizes.length c1_0, .slice A1_1 b_bans.length c1_1]] w (Gives (.bool r) w) := by
  have HB := Lib.hid (Below.refl w.heap.size w)
  unfold P at H
  have N0_0o := N0_0.out
  have N0_1o := N0_1.out
  have N1_0o := N1_0.out
  have N1_1o := N1_1.out
  go_enter Try.func17, Try.ntmps17
  obtain ⟨w_a_0, hw_a_0⟩ : ∃ x, w.alloc (.cells #[.slice A0_0 a_sizes.length c0_0, .slice A0_1 a_bans.length c0_1] 30) = x := ⟨_, rfl⟩
  have bw_a_0 : Below w.heap.size w w_a_0 := by rw [← hw_a_0]; exact (Below.refl _ _).alloc (Nat.le_refl _) _
  have HBw_a_0 := Lib.hid (Below.step HB.out bw_a_0)
  clear bw_a_0
  have ka_0_0 : w_a_0.cell? ⟨w.heap.size, 0, none⟩ = some (.slice A0_0 a_sizes.length c0_0) := by rw [← hw_a_0]; exact box_new _ _ _ 0 _ rfl
  have ka_0_1 : w_a_0.cell? ⟨w.heap.size, 1, none⟩ = some (.slice A0_1 a_bans.length c0_1) := by rw [← hw_a_0]; exact box_new _ _ _ 1 _ rfl
  obtain ⟨w_b_1, hw_b_1⟩ : ∃ x, w_a_0.alloc (.cells #[.slice A1_0 b_sizes.length c1_0, .slice A1_1 b_bans.length c1_1] 30) = x := ⟨_, rfl⟩
  have bw_b_1 : Below w_a_0.heap.size w_a_0 w_b_1 := by rw [← hw_b_1]; exact (Below.refl _ _).alloc (Nat.le_refl _) _
  have HBw_b_1 := Lib.hid (Below.step HBw_a_0.out bw_b_1)
  have ka_0_0__168 := cell_below bw_b_1 ka_0_0
  have ka_0_1__169 := cell_below bw_b_1 ka_0_1
  clear bw_b_1
  have kb_1_0 : w_b_1.cell? ⟨w_a_0.heap.size, 0, none⟩ = some (.slice A1_0 b_sizes.length c1_0) := by rw [← hw_b_1]; exact box_new _ _ _ 0 _ rfl
  have kb_1_1 : w_b_1.cell? ⟨w_a_0.heap.size, 1, none⟩ = some (.slice A1_1 b_bans.length c1_1) := by rw [← hw_b_1]; exact box_new _ _ _ 1 _ rfl
  replace H := bind_hid H
  obtain ⟨t_7, qt_7, H⟩ := H
  go_wp2_with fail
  clear ka_0_0 ka_0_1
  go_at_call 21
  refine (Go.Proofs.Ytekacbjnpeglhaa.GlEqIntS.C (a_sizes) (b_sizes) A0_0 c0_0 A1_0 c1_0 _   (Lib.hid (Cells.below M0_0.out HBw_b_1.out)) N0_0 (Lib.hid (Cells.below M1_0.out HBw_b_1.out)) N1_0 qt_7).mono ?_
  rintro e_t_7 wt_7 ⟨rfl, bt_7⟩
  have HBwt_7 := Lib.hid (Below.step HBw_b_1.out bt_7)
  replace ka_0_0__168 := cell_below bt_7 ka_0_0__168
  replace ka_0_1__169 := cell_below bt_7 ka_0_1__169
  replace kb_1_0 := cell_below bt_7 kb_1_0
  replace kb_1_1 := cell_below bt_7 kb_1_1
  clear bt_7
  cases t_7 with
  | false =>
    replace H := let_hid H
    obtain ⟨t_8, ht_8, H⟩ := H
    obtain rfl : t_8 = true := ht_8.symm
    replace H := ite_t H
    obtain rfl := ret_hid H
    go_wp2_with fail
    go_ret
    exact ⟨rfl, HBwt_7.out⟩
  | true =>
    replace H := let_hid H
    obtain ⟨t_8, ht_8, H⟩ := H
    obtain rfl : t_8 = false := ht_8.symm
    replace H := ite_f H
    replace H := bind_hid H
    obtain ⟨t_14, qt_14, H⟩ := H
    go_wp2_with fail
    go_at_call 58
    refine (Go.Proofs.Ytekacbjnpeglhaa.GlEqBanS.C (a_bans) (b_bans) A0_1 c0_1 A1_1 c1_1 _   (Lib.hid (Cells.below M0_1.out HBwt_7.out)) N0_1 (Lib.hid (Cells.below M1_1.out HBwt_7.out)) N1_1 qt_14).mono ?_
    rintro e_t_14 wt_14 ⟨rfl, bt_14⟩
    have HBwt_14 := Lib.hid (Below.step HBwt_7.out bt_14)
    replace ka_0_0__168 := cell_below bt_14 ka_0_0__168
    replace ka_0_1__169 := cell_below bt_14 ka_0_1__169
    replace kb_1_0 := cell_below bt_14 kb_1_0
    replace kb_1_1 := cell_below bt_14 kb_1_1
    clear bt_14
    cases t_14 with
    | false =>
      replace H := let_hid H
      obtain ⟨t_15, ht_15, H⟩ := H
      obtain rfl : t_15 = true := ht_15.symm
      replace H := ite_t H
      obtain rfl := ret_hid H
      go_wp2_with fail
      go_ret
      exact ⟨rfl, HBwt_14.out⟩
    | true =>
      replace H := let_hid H
      obtain ⟨t_15, ht_15, H⟩ := H
      obtain rfl : t_15 = false := ht_15.symm
      replace H := ite_f H
      obtain rfl := ret_hid H
      go_wp2_with fail
      go_ret
      exact ⟨rfl, HBwt_14.out⟩
end Go.Proofs.Ytekacbjnpeglhaa.GlEqKindTable

/- loop.example/g01062/laws.FnExactIsCompatible as a plain function, and the contract of the program's: where the plain one has an answer, the program has it. Conditions: slices read as lists. -/
namespace Go.Proofs.Ytekacbjnpeglhaa.GlFnExactIsCompatible
set_option linter.unusedVariables false
set_option linter.unusedSimpArgs false
open Go.RowKit
open Go.Proofs.Ytekacbjnpeglhaa.Rowed Go.Proofs.Ytekacbjnpeglhaa.Turn Go.Proofs.Ytekacbjnpeglhaa.Aid Go.Proofs.Ytekacbjnpeglhaa.GoP Go.Proofs.Ytekacbjnpeglhaa.GoM

def P (fuel : Nat) (aT_sizes : (List Int)) (aT_bans : (List Go.Proofs.Ytekacbjnpeglhaa.PBan.Ban)) (aKind : (List Int)) : Option (Bool) :=
  letK (decide (1048576 < (aKind.length : Int))) fun (t_4 : Bool) =>
  iteK t_4
  (some true)
  (Option.bind (Go.Proofs.Ytekacbjnpeglhaa.GlSzKindTable.P aT_sizes aT_bans 1048576) fun (t_9 : Int) =>
  letK (decide (t_9 < 0)) fun (t_12 : Bool) =>
  iteK t_12
  (some true)
  (Option.bind (Go.Proofs.Ytekacbjnpeglhaa.GlToKindTable.P aT_sizes aT_bans) fun (t_15 : Go.Proofs.Ytekacbjnpeglhaa.PKindTable.KindTable) =>
  unKindTable t_15 fun (t_15_sizes : (List Int)) (t_15_bans : (List Go.Proofs.Ytekacbjnpeglhaa.PBan.Ban)) =>
  Option.bind (Go.Proofs.Ytekacbjnpeglhaa.GlToIntS.P aKind) fun (t_17 : (List Int)) =>
  bind2 (Go.Proofs.Ytekacbjnpeglhaa.GsIsCompatible.P fuel t_15_sizes t_15_bans t_17) fun (t_18a : Bool) (t_18b : Bool) =>
  Option.bind (Go.Proofs.Ytekacbjnpeglhaa.GlToKindTable.P aT_sizes aT_bans) fun (t_25 : Go.Proofs.Ytekacbjnpeglhaa.PKindTable.KindTable) =>
  unKindTable t_25 fun (t_25_sizes : (List Int)) (t_25_bans : (List Go.Proofs.Ytekacbjnpeglhaa.PBan.Ban)) =>
  Option.bind (Go.Proofs.Ytekacbjnpeglhaa.GlToIntS.P aKind) fun (t_29 : (List Int)) =>
  bind2 (Go.Proofs.Ytekacbjnpeglhaa.GiIsCompatible.P t_25_sizes t_25_bans t_29) fun (t_33a : Bool) (t_33b : Bool) =>
  letK (!(t_33a == t_18a)) fun (t_41 : Bool) =>
  joinK (fun (t_46 : Bool) =>
  iteK t_46
  (some false)
  (Option.bind (Go.Proofs.Ytekacbjnpeglhaa.GlToKindTable.P aT_sizes aT_bans) fun (t_50 : Go.Proofs.Ytekacbjnpeglhaa.PKindTable.KindTable) =>
  unKindTable t_50 fun (t_50_sizes : (List Int)) (t_50_bans : (List Go.Proofs.Ytekacbjnpeglhaa.PBan.Ban)) =>
  Option.bind (Go.Proofs.Ytekacbjnpeglhaa.GlEqKindTable.P t_25_sizes t_25_bans t_50_sizes t_50_bans) fun (t_51 : Bool) =>
  letK (!t_51) fun (t_52 : Bool) =>
  iteK t_52
  (some false)
  (Option.bind (Go.Proofs.Ytekacbjnpeglhaa.GlToIntS.P aKind) fun (t_56 : (List Int)) =>
  Option.bind (Go.Proofs.Ytekacbjnpeglhaa.GlEqIntS.P t_29 t_56) fun (t_57 : Bool) =>
  letK (!t_57) fun (t_58 : Bool) =>
  iteK t_58
  (some false)
  (some true)))) fun jt_46 => iteK t_41 (appK jt_46 true) (letK (!(t_33b == t_18b)) fun (t_45 : Bool) =>
  appK jt_46 t_45)))

set_option maxRecDepth 100000 in
set_option maxHeartbeats 2000000 in
theorem C (fuel : Nat) (aT_sizes : (List Int)) (aT_bans : (List Go.Proofs.Ytekacbjnpeglhaa.PBan.Ban)) (aKind : (List Int)) (A0_0 : Option Addr) (c0_0 : Nat) (A0_1 : Option Addr) (c0_1 : Nat) (A1 : Option Addr) (c1 : Nat)  (w : World) (M0_0 : Hid (Cells w 1 A0_0 aT_sizes.length (Go.Proofs.Ytekacbjnpeglhaa.HelpInt.iv aT_sizes))) (N0_0 : Hid (aT_sizes.length ≤ 9223372036854775807)) (M0_1 : Hid (Cells w 4 A0_1 aT_bans.length (Go.Proofs.Ytekacbjnpeglhaa.PBan.flat aT_bans))) (N0_1 : Hid (aT_bans.length ≤ 9223372036854775807)) (M1 : Hid (Cells w 1 A1 aKind.length (Go.Proofs.Ytekacbjnpeglhaa.HelpInt.iv aKind))) (N1 : Hid (aKind.length ≤ 9223372036854775807))  {r : Bool} (H : Hid (P fuel aT_sizes aT_bans aKind = some r)) :
    Calls Try.prog 4 #[.agg #[.slice A0_0 aT_sizes.length c0_0, .slice A0_1 aT_bans.length c0_1], .slice A1 aKind.length c1] w (Gives (.bool r) w) := by
  have HB := Lib.hid (Below.refl w.heap.size w)
  unfold P at H
  have N0_0o := N0_0.out
  have N0_1o := N0_1.out
  have N1o := N1.out
  go_enter Try.func4, Try.ntmps4
  obtain ⟨w_aT_0, hw_aT_0⟩ : ∃ x, w.alloc (.cells #[.slice A0_0 aT_sizes.length c0_0, .slice A0_1 aT_bans.length c0_1] 25) = x := ⟨_, rfl⟩
  have bw_aT_0 : Below w.heap.size w w_aT_0 := by rw [← hw_aT_0]; exact (Below.refl _ _).alloc (Nat.le_refl _) _
  have HBw_aT_0 := Lib.hid (Below.step HB.out bw_aT_0)
  clear bw_aT_0
  have kaT_0_0 : w_aT_0.cell? ⟨w.heap.size, 0, none⟩ = some (.slice A0_0 aT_sizes.length c0_0) := by rw [← hw_aT_0]; exact box_new _ _ _ 0 _ rfl
  have kaT_0_1 : w_aT_0.cell? ⟨w.heap.size, 1, none⟩ = some (.slice A0_1 aT_bans.length c0_1) := by rw [← hw_aT_0]; exact box_new _ _ _ 1 _ rfl
  replace H := let_hid H
  obtain ⟨t_4, ht_4, H⟩ := H
  cases t_4 with
  | false =>
    have nht_4 : ¬ (1048576 < aKind.length) := by have := of_decide_eq_false ht_4; omega
    replace H := ite_f H
    replace H := bind_hid H
    obtain ⟨t_9, qt_9, H⟩ := H
    go_wp2_with fail
    go_at_call 13
    refine (Go.Proofs.Ytekacbjnpeglhaa.GlSzKindTable.C (aT_sizes) (aT_bans) (1048576) A0_0 c0_0 A0_1 c0_1 _   (Lib.hid (Cells.below M0_0.out HBw_aT_0.out)) N0_0 (Lib.hid (Cells.below M0_1.out HBw_aT_0.out)) N0_1 qt_9).mono ?_
    rintro e_t_9 wt_9 ⟨rfl, bt_9⟩
    have HBwt_9 := Lib.hid (Below.step HBw_aT_0.out bt_9)
    replace kaT_0_0 := cell_below bt_9 kaT_0_0
    replace kaT_0_1 := cell_below bt_9 kaT_0_1
    clear bt_9
    replace H := let_hid H
    obtain ⟨t_12, ht_12, H⟩ := H
    cases t_12 with
    | false =>
      replace H := ite_f H
      replace H := bind_hid H
      obtain ⟨t_15, qt_15, H⟩ := H
      obtain ⟨t_15_sizes, t_15_bans⟩ := t_15
      replace H := unKindTable_hid H
      go_wp2_with fail
      go_at_call 15
      refine (Go.Proofs.Ytekacbjnpeglhaa.GlToKindTable.C (aT_sizes) (aT_bans) A0_0 c0_0 A0_1 c0_1 _   (Lib.hid (Cells.below M0_0.out HBwt_9.out)) N0_0 (Lib.hid (Cells.below M0_1.out HBwt_9.out)) N0_1 qt_15).mono ?_
      rintro e_t_15 wt_15 ⟨At_15_sizes, ct_15_sizes, At_15_bans, ct_15_bans, rfl, ot_15_sizes, ot_15_bans, d0_1, bt_15⟩
      have Dt_15_sizes_aT_0 := Lib.hid (apart_callbox ot_15_sizes kaT_0_0)
      have Dt_15_bans_aT_0 := Lib.hid (apart_callbox ot_15_bans kaT_0_0)
      have Dt_15_sizes_t_15_bans := Lib.hid d0_1
      have Ot_15_sizes := Lib.hid (own_lower ot_15_sizes HBwt_9.out.size)
      clear ot_15_sizes
      have Ot_15_bans := Lib.hid (own_lower ot_15_bans HBwt_9.out.size)
      clear ot_15_bans
      have HBwt_15 := Lib.hid (Below.step HBwt_9.out bt_15)
      replace kaT_0_0 := cell_below bt_15 kaT_0_0
      replace kaT_0_1 := cell_below bt_15 kaT_0_1
      clear bt_15
      replace H := bind_hid H
      obtain ⟨t_17, qt_17, H⟩ := H
      go_wp2_with fail
      go_at_call 19
      refine (Go.Proofs.Ytekacbjnpeglhaa.GlToIntS.C (aKind) A1 c1 _   (Lib.hid (Cells.below M1.out HBwt_15.out)) N1 qt_17).mono ?_
      rintro e_t_17 wt_17 ⟨At_17, ct_17, rfl, ot_17, bt_17⟩
      have Dt_17_t_15_sizes := Lib.hid (apart_call ot_17 Ot_15_sizes.out)
      have Dt_17_t_15_bans := Lib.hid (apart_call ot_17 Ot_15_bans.out)
      have Dt_17_aT_0 := Lib.hid (apart_callbox ot_17 kaT_0_0)
      have Ot_17 := Lib.hid (own_lower ot_17 HBwt_15.out.size)
      clear ot_17
      have HBwt_17 := Lib.hid (Below.step HBwt_15.out bt_17)
      replace kaT_0_0 := cell_below bt_17 kaT_0_0
      replace kaT_0_1 := cell_below bt_17 kaT_0_1
      replace Ot_15_sizes := Lib.hid (own_below Ot_15_sizes.out bt_17)
      replace Ot_15_bans := Lib.hid (own_below Ot_15_bans.out bt_17)
      clear bt_17
      replace H := bind2_hid H
      obtain ⟨t_18a, t_18b, qt_18, H⟩ := H
      go_wp2_with fail
      go_at_call 18
      refine (Go.Proofs.Ytekacbjnpeglhaa.GsIsCompatible.C fuel (t_15_sizes) (t_15_bans) (t_17) At_15_sizes ct_15_sizes At_15_bans ct_15_bans At_17 ct_17 _   (Lib.hid (own_cells Ot_15_sizes.out)) (Lib.hid (own_max Ot_15_sizes.out)) (Lib.hid (own_cells Ot_15_bans.out)) (Lib.hid (own_max Ot_15_bans.out)) (Lib.hid (own_cells Ot_17.out)) (Lib.hid (own_max Ot_17.out)) qt_18).mono ?_
      rintro e_t_18 wt_18 ⟨rfl, bt_18⟩
      have HBwt_18 := Lib.hid (Below.step HBwt_17.out bt_18)
      replace kaT_0_0 := cell_below bt_18 kaT_0_0
      replace kaT_0_1 := cell_below bt_18 kaT_0_1
      replace Ot_15_sizes := Lib.hid (own_below Ot_15_sizes.out bt_18)
      replace Ot_15_bans := Lib.hid (own_below Ot_15_bans.out bt_18)
      replace Ot_17 := Lib.hid (own_below Ot_17.out bt_18)
      clear bt_18
      replace H := bind_hid H
      obtain ⟨t_25, qt_25, H⟩ := H
      obtain ⟨t_25_sizes, t_25_bans⟩ := t_25
      replace H := unKindTable_hid H
      go_wp2_with fail
      go_at_call 15
      refine (Go.Proofs.Ytekacbjnpeglhaa.GlToKindTable.C (aT_sizes) (aT_bans) A0_0 c0_0 A0_1 c0_1 _   (Lib.hid (Cells.below M0_0.out HBwt_18.out)) N0_0 (Lib.hid (Cells.below M0_1.out HBwt_18.out)) N0_1 qt_25).mono ?_
      rintro e_t_25 wt_25 ⟨At_25_sizes, ct_25_sizes, At_25_bans, ct_25_bans, rfl, ot_25_sizes, ot_25_bans, d0_1, bt_25⟩
      have Dt_25_sizes_t_15_sizes := Lib.hid (apart_call ot_25_sizes Ot_15_sizes.out)
      have Dt_25_sizes_t_15_bans := Lib.hid (apart_call ot_25_sizes Ot_15_bans.out)
      have Dt_25_sizes_t_17 := Lib.hid (apart_call ot_25_sizes Ot_17.out)
      have Dt_25_sizes_aT_0 := Lib.hid (apart_callbox ot_25_sizes kaT_0_0)
      have Dt_25_bans_t_15_sizes := Lib.hid (apart_call ot_25_bans Ot_15_sizes.out)
      have Dt_25_bans_t_15_bans := Lib.hid (apart_call ot_25_bans Ot_15_bans.out)
      have Dt_25_bans_t_17 := Lib.hid (apart_call ot_25_bans Ot_17.out)
      have Dt_25_bans_aT_0 := Lib.hid (apart_callbox ot_25_bans kaT_0_0)
      have Dt_25_sizes_t_25_bans := Lib.hid d0_1
      have Ot_25_sizes := Lib.hid (own_lower ot_25_sizes HBwt_18.out.size)
      clear ot_25_sizes
      have Ot_25_bans := Lib.hid (own_lower ot_25_bans HBwt_18.out.size)
      clear ot_25_bans
      have HBwt_25 := Lib.hid (Below.step HBwt_18.out bt_25)
      replace kaT_0_0 := cell_below bt_25 kaT_0_0
      replace kaT_0_1 := cell_below bt_25 kaT_0_1
      replace Ot_15_sizes := Lib.hid (own_below Ot_15_sizes.out bt_25)
      replace Ot_15_bans := Lib.hid (own_below Ot_15_bans.out bt_25)
      replace Ot_17 := Lib.hid (own_below Ot_17.out bt_25)
      clear bt_25
      obtain ⟨w_x0_26, hw_x0_26⟩ : ∃ x, wt_25.alloc (.cells #[.slice At_25_sizes t_25_sizes.length ct_25_sizes, .slice At_25_bans t_25_bans.length ct_25_bans] 30) = x := ⟨_, rfl⟩
      have bw_x0_26 : Below wt_25.heap.size wt_25 w_x0_26 := by rw [← hw_x0_26]; exact (Below.refl _ _).alloc (Nat.le_refl _) _
      have Dx0_26_t_15_sizes := Lib.hid (apart_fresh Ot_15_sizes.out)
      have Dx0_26_t_15_bans := Lib.hid (apart_fresh Ot_15_bans.out)
      have Dx0_26_t_17 := Lib.hid (apart_fresh Ot_17.out)
      have Dx0_26_t_25_sizes := Lib.hid (apart_fresh Ot_25_sizes.out)
      have Dx0_26_t_25_bans := Lib.hid (apart_fresh Ot_25_bans.out)
      have HBw_x0_26 := Lib.hid (Below.step HBwt_25.out bw_x0_26)
      have kaT_0_0__205 := cell_below bw_x0_26 kaT_0_0
      have kaT_0_1__206 := cell_below bw_x0_26 kaT_0_1
      replace Ot_15_sizes := Lib.hid (own_below Ot_15_sizes.out bw_x0_26)
      replace Ot_15_bans := Lib.hid (own_below Ot_15_bans.out bw_x0_26)
      replace Ot_17 := Lib.hid (own_below Ot_17.out bw_x0_26)
      replace Ot_25_sizes := Lib.hid (own_below Ot_25_sizes.out bw_x0_26)
      replace Ot_25_bans := Lib.hid (own_below Ot_25_bans.out bw_x0_26)
      clear bw_x0_26
      have kx0_26_0 : w_x0_26.cell? ⟨wt_25.heap.size, 0, none⟩ = some (.slice At_25_sizes t_25_sizes.length ct_25_sizes) := by rw [← hw_x0_26]; exact box_new _ _ _ 0 _ rfl
      have kx0_26_1 : w_x0_26.cell? ⟨wt_25.heap.size, 1, none⟩ = some (.slice At_25_bans t_25_bans.length ct_25_bans) := by rw [← hw_x0_26]; exact box_new _ _ _ 1 _ rfl
      replace H := bind_hid H
      obtain ⟨t_29, qt_29, H⟩ := H
      go_wp2_with fail
      clear kaT_0_0 kaT_0_1
      go_at_call 19
      refine (Go.Proofs.Ytekacbjnpeglhaa.GlToIntS.C (aKind) A1 c1 _   (Lib.hid (Cells.below M1.out HBw_x0_26.out)) N1 qt_29).mono ?_
      rintro e_t_29 wt_29 ⟨At_29, ct_29, rfl, ot_29, bt_29⟩
      have Dt_29_t_15_sizes := Lib.hid (apart_call ot_29 Ot_15_sizes.out)
      have Dt_29_t_15_bans := Lib.hid (apart_call ot_29 Ot_15_bans.out)
      have Dt_29_t_17 := Lib.hid (apart_call ot_29 Ot_17.out)
      have Dt_29_t_25_sizes := Lib.hid (apart_call ot_29 Ot_25_sizes.out)
      have Dt_29_t_25_bans := Lib.hid (apart_call ot_29 Ot_25_bans.out)
      have Dt_29_aT_0 := Lib.hid (apart_callbox ot_29 kaT_0_0__205)
      have Dt_29_x0_26 := Lib.hid (apart_callbox ot_29 kx0_26_0)
      have Ot_29 := Lib.hid (own_lower ot_29 HBw_x0_26.out.size)
      clear ot_29
      have HBwt_29 := Lib.hid (Below.step HBw_x0_26.out bt_29)
      replace kaT_0_0__205 := cell_below bt_29 kaT_0_0__205
      replace kaT_0_1__206 := cell_below bt_29 kaT_0_1__206
      replace kx0_26_0 := cell_below bt_29 kx0_26_0
      replace kx0_26_1 := cell_below bt_29 kx0_26_1
      replace Ot_15_sizes := Lib.hid (own_below Ot_15_sizes.out bt_29)
      replace Ot_15_bans := Lib.hid (own_below Ot_15_bans.out bt_29)
      replace Ot_17 := Lib.hid (own_below Ot_17.out bt_29)
      replace Ot_25_sizes := Lib.hid (own_below Ot_25_sizes.out bt_29)
      replace Ot_25_bans := Lib.hid (own_below Ot_25_bans.out bt_29)
      clear bt_29
      replace H := bind2_hid H
      obtain ⟨t_33a, t_33b, qt_33, H⟩ := H
      go_wp2_with fail
      go_at_call 20
      refine (Go.Proofs.Ytekacbjnpeglhaa.GiIsCompatible.C (t_25_sizes) (t_25_bans) (t_29) At_25_sizes ct_25_sizes At_25_bans ct_25_bans At_29 ct_29 _   (Lib.hid (own_cells Ot_25_sizes.out)) (Lib.hid (own_max Ot_25_sizes.out)) (Lib.hid (own_cells Ot_25_bans.out)) (Lib.hid (own_max Ot_25_bans.out)) (Lib.hid (own_cells Ot_29.out)) (Lib.hid (own_max Ot_29.out)) qt_33).mono ?_
      rintro e_t_33 wt_33 ⟨rfl, bt_33⟩
      have HBwt_33 := Lib.hid (Below.step HBwt_29.out bt_33)
      replace kaT_0_0__205 := cell_below bt_33 kaT_0_0__205
      replace kaT_0_1__206 := cell_below bt_33 kaT_0_1__206
      replace kx0_26_0 := cell_below bt_33 kx0_26_0
      replace kx0_26_1 := cell_below bt_33 kx0_26_1
      replace Ot_15_sizes := Lib.hid (own_below Ot_15_sizes.out bt_33)
      replace Ot_15_bans := Lib.hid (own_below Ot_15_bans.out bt_33)
      replace Ot_17 := Lib.hid (own_below Ot_17.out bt_33)
      replace Ot_25_sizes := Lib.hid (own_below Ot_25_sizes.out bt_33)
      replace Ot_25_bans := Lib.hid (own_below Ot_25_bans.out bt_33)
      replace Ot_29 := Lib.hid (own_below Ot_29.out bt_33)
      clear bt_33
      replace H := let_hid H
      obtain ⟨t_41, ht_41, H⟩ := H
      replace H := join_hid H
      cases t_41 with
      | false =>
        replace H := ite_f H
        replace H := let_hid H
        obtain ⟨t_45, ht_45, H⟩ := H
        replace H := app_hid H
        cases t_45 with
        | false =>
          replace H := ite_f H
          go_wp2_with fail
          have bd13 : Below wt_33.heap.size wt_33 wt_33.drew := (Below.refl _ _).drew
          have HBwt_33.drew := Lib.hid (Below.step HBwt_33.out bd13)
          replace kaT_0_0__205 := cell_below bd13 kaT_0_0__205
          replace kaT_0_1__206 := cell_below bd13 kaT_0_1__206
          replace kx0_26_0 := cell_below bd13 kx0_26_0
          replace kx0_26_1 := cell_below bd13 kx0_26_1
          replace Ot_15_sizes := Lib.hid (own_below Ot_15_sizes.out bd13)
          replace Ot_15_bans := Lib.hid (own_below Ot_15_bans.out bd13)
          replace Ot_17 := Lib.hid (own_below Ot_17.out bd13)
          replace Ot_25_sizes := Lib.hid (own_below Ot_25_sizes.out bd13)
          replace Ot_25_bans := Lib.hid (own_below Ot_25_bans.out bd13)
          replace Ot_29 := Lib.hid (own_below Ot_29.out bd13)
          clear bd13
          replace H := bind_hid H
          obtain ⟨t_50, qt_50, H⟩ := H
          obtain ⟨t_50_sizes, t_50_bans⟩ := t_50
          replace H := unKindTable_hid H
          replace H := bind_hid H
          obtain ⟨t_51, qt_51, H⟩ := H
          cases t_51 with
          | false =>
            replace H := let_hid H
            obtain ⟨t_52, ht_52, H⟩ := H
            obtain rfl : t_52 = true := ht_52.symm
            go_region_held3 (fun w' => w'.cell? ⟨w.heap.size, 0, none⟩ = some (.slice A0_0 aT_sizes.length c0_0) ∧ w'.cell? ⟨w.heap.size, 1, none⟩ = some (.slice A0_1 aT_bans.length c0_1) ∧ w'.cell? ⟨wt_25.heap.size, 0, none⟩ = some (.slice At_25_sizes t_25_sizes.length ct_25_sizes) ∧ w'.cell? ⟨wt_25.heap.size, 1, none⟩ = some (.slice At_25_bans t_25_bans.length ct_25_bans)) (first | exact ⟨kaT_0_0__205, kaT_0_1__206, kx0_26_0, kx0_26_1⟩)
                (first
                  | (go_at_call 15
                     refine (Go.Proofs.Ytekacbjnpeglhaa.GlToKindTable.C (aT_sizes) (aT_bans) A0_0 c0_0 A0_1 c0_1 _   (Lib.hid (Cells.below M0_0.out HBwt_33.drew.out)) N0_0 (Lib.hid (Cells.below M0_1.out HBwt_33.drew.out)) N0_1 qt_50).mono ?_
                     rintro e_t_50 wt_50 ⟨At_50_sizes, ct_50_sizes, At_50_bans, ct_50_bans, rfl, ot_50_sizes, ot_50_bans, d0_1, bt_50⟩
                     have Dt_50_sizes_t_15_sizes := Lib.hid (apart_call ot_50_sizes Ot_15_sizes.out)
                     have Dt_50_sizes_t_15_bans := Lib.hid (apart_call ot_50_sizes Ot_15_bans.out)
                     have Dt_50_sizes_t_17 := Lib.hid (apart_call ot_50_sizes Ot_17.out)
                     have Dt_50_sizes_t_25_sizes := Lib.hid (apart_call ot_50_sizes Ot_25_sizes.out)
                     have Dt_50_sizes_t_25_bans := Lib.hid (apart_call ot_50_sizes Ot_25_bans.out)
                     have Dt_50_sizes_t_29 := Lib.hid (apart_call ot_50_sizes Ot_29.out)
                     have Dt_50_sizes_aT_0 := Lib.hid (apart_callbox ot_50_sizes kaT_0_0__205)
                     have Dt_50_sizes_x0_26 := Lib.hid (apart_callbox ot_50_sizes kx0_26_0)
                     have Dt_50_bans_t_15_sizes := Lib.hid (apart_call ot_50_bans Ot_15_sizes.out)
                     have Dt_50_bans_t_15_bans := Lib.hid (apart_call ot_50_bans Ot_15_bans.out)
                     have Dt_50_bans_t_17 := Lib.hid (apart_call ot_50_bans Ot_17.out)
                     have Dt_50_bans_t_25_sizes := Lib.hid (apart_call ot_50_bans Ot_25_sizes.out)
                     have Dt_50_bans_t_25_bans := Lib.hid (apart_call ot_50_bans Ot_25_bans.out)
                     have Dt_50_bans_t_29 := Lib.hid (apart_call ot_50_bans Ot_29.out)
                     have Dt_50_bans_aT_0 := Lib.hid (apart_callbox ot_50_bans kaT_0_0__205)
                     have Dt_50_bans_x0_26 := Lib.hid (apart_callbox ot_50_bans kx0_26_0)
                     have Dt_50_sizes_t_50_bans := Lib.hid d0_1
                     have Ot_50_sizes := Lib.hid (own_lower ot_50_sizes HBwt_33.drew.out.size)
                     clear ot_50_sizes
                     have Ot_50_bans := Lib.hid (own_lower ot_50_bans HBwt_33.drew.out.size)
                     clear ot_50_bans
                     have HBwt_50 := Lib.hid (Below.step HBwt_33.drew.out bt_50)
                     replace kaT_0_0__205 := cell_below bt_50 kaT_0_0__205
                     replace kaT_0_1__206 := cell_below bt_50 kaT_0_1__206
                     replace kx0_26_0 := cell_below bt_50 kx0_26_0
                     replace kx0_26_1 := cell_below bt_50 kx0_26_1
                     replace Ot_15_sizes := Lib.hid (own_below Ot_15_sizes.out bt_50)
                     replace Ot_15_bans := Lib.hid (own_below Ot_15_bans.out bt_50)
                     replace Ot_17 := Lib.hid (own_below Ot_17.out bt_50)
                     replace Ot_25_sizes := Lib.hid (own_below Ot_25_sizes.out bt_50)
                     replace Ot_25_bans := Lib.hid (own_below Ot_25_bans.out bt_50)
                     replace Ot_29 := Lib.hid (own_below Ot_29.out bt_50)
                     clear bt_50
                     clear qt_50)
                  | (go_at_call 17
                     refine (Go.Proofs.Ytekacbjnpeglhaa.GlEqKindTable.C (t_25_sizes) (t_25_bans) (t_50_sizes) (t_50_bans) At_25_sizes ct_25_sizes At_25_bans ct_25_bans At_50_sizes ct_50_sizes At_50_bans ct_50_bans _   (Lib.hid (own_cells Ot_25_sizes.out)) (Lib.hid (own_max Ot_25_sizes.out)) (Lib.hid (own_cells Ot_25_bans.out)) (Lib.hid (own_max Ot_25_bans.out)) (Lib.hid (own_cells Ot_50_sizes.out)) (Lib.hid (own_max Ot_50_sizes.out)) (Lib.hid (own_cells Ot_50_bans.out)) (Lib.hid (own_max Ot_50_bans.out)) qt_51).mono ?_
                     rintro e_t_51 wt_51 ⟨rfl, bt_51⟩
                     have HBwt_51 := Lib.hid (Below.step HBwt_50.out bt_51)
                     replace kaT_0_0__205 := cell_below bt_51 kaT_0_0__205
                     replace kaT_0_1__206 := cell_below bt_51 kaT_0_1__206
                     replace kx0_26_0 := cell_below bt_51 kx0_26_0
                     replace kx0_26_1 := cell_below bt_51 kx0_26_1
                     replace Ot_15_sizes := Lib.hid (own_below Ot_15_sizes.out bt_51)
                     replace Ot_15_bans := Lib.hid (own_below Ot_15_bans.out bt_51)
                     replace Ot_17 := Lib.hid (own_below Ot_17.out bt_51)
                     replace Ot_25_sizes := Lib.hid (own_below Ot_25_sizes.out bt_51)
                     replace Ot_25_bans := Lib.hid (own_below Ot_25_bans.out bt_51)
                     replace Ot_29 := Lib.hid (own_below Ot_29.out bt_51)
                     replace Ot_50_sizes := Lib.hid (own_below Ot_50_sizes.out bt_51)
                     replace Ot_50_bans := Lib.hid (own_below Ot_50_bans.out bt_51)
                     clear bt_51
                     clear qt_51))
            replace H := ite_t H
            obtain rfl := ret_hid H
            go_wp2_with fail
            go_ret
            exact ⟨rfl, HBwt_51.out⟩
          | true =>
            replace H := let_hid H
            obtain ⟨t_52, ht_52, H⟩ := H
            obtain rfl : t_52 = false := ht_52.symm
            go_region_held3 (fun w' => w'.cell? ⟨w.heap.size, 0, none⟩ = some (.slice A0_0 aT_sizes.length c0_0) ∧ w'.cell? ⟨w.heap.size, 1, none⟩ = some (.slice A0_1 aT_bans.length c0_1) ∧ w'.cell? ⟨wt_25.heap.size, 0, none⟩ = some (.slice At_25_sizes t_25_sizes.length ct_25_sizes) ∧ w'.cell? ⟨wt_25.heap.size, 1, none⟩ = some (.slice At_25_bans t_25_bans.length ct_25_bans)) (first | exact ⟨kaT_0_0__205, kaT_0_1__206, kx0_26_0, kx0_26_1⟩)
                (first
                  | (go_at_call 15
                     refine (Go.Proofs.Ytekacbjnpeglhaa.GlToKindTable.C (aT_sizes) (aT_bans) A0_0 c0_0 A0_1 c0_1 _   (Lib.hid (Cells.below M0_0.out HBwt_33.drew.out)) N0_0 (Lib.hid (Cells.below M0_1.out HBwt_33.drew.out)) N0_1 qt_50).mono ?_
                     rintro e_t_50 wt_50 ⟨At_50_sizes, ct_50_sizes, At_50_bans, ct_50_bans, rfl, ot_50_sizes, ot_50_bans, d0_1, bt_50⟩
                     have Dt_50_sizes_t_15_sizes := Lib.hid (apart_call ot_50_sizes Ot_15_sizes.out)
                     have Dt_50_sizes_t_15_bans := Lib.hid (apart_call ot_50_sizes Ot_15_bans.out)
                     have Dt_50_sizes_t_17 := Lib.hid (apart_call ot_50_sizes Ot_17.out)
                     have Dt_50_sizes_t_25_sizes := Lib.hid (apart_call ot_50_sizes Ot_25_sizes.out)
                     have Dt_50_sizes_t_25_bans := Lib.hid (apart_call ot_50_sizes Ot_25_bans.out)
                     have Dt_50_sizes_t_29 := Lib.hid (apart_call ot_50_sizes Ot_29.out)
                     have Dt_50_sizes_aT_0 := Lib.hid (apart_callbox ot_50_sizes kaT_0_0__205)
                     have Dt_50_sizes_x0_26 := Lib.hid (apart_callbox ot_50_sizes kx0_26_0)
                     have Dt_50_bans_t_15_sizes := Lib.hid (apart_call ot_50_bans Ot_15_sizes.out)
                     have Dt_50_bans_t_15_bans := Lib.hid (apart_call ot_50_bans Ot_15_bans.out)
                     have Dt_50_bans_t_17 := Lib.hid (apart_call ot_50_bans Ot_17.out)
                     have Dt_50_bans_t_25_sizes := Lib.hid (apart_call ot_50_bans Ot_25_sizes.out)
                     have Dt_50_bans_t_25_bans := Lib.hid (apart_call ot_50_bans Ot_25_bans.out)
                     have Dt_50_bans_t_29 := Lib.hid (apart_call ot_50_bans Ot_29.out)
                     have Dt_50_bans_aT_0 := Lib.hid (apart_callbox ot_50_bans kaT_0_0__205)
                     have Dt_50_bans_x0_26 := Lib.hid (apart_callbox ot_50_bans kx0_26_0)
                     have Dt_50_sizes_t_50_bans := Lib.hid d0_1
                     have Ot_50_sizes := Lib.hid (own_lower ot_50_sizes HBwt_33.drew.out.size)
                     clear ot_50_sizes
                     have Ot_50_bans := Lib.hid (own_lower ot_50_bans HBwt_33.drew.out.size)
                     clear ot_50_bans
                     have HBwt_50 := Lib.hid (Below.step HBwt_33.drew.out bt_50)
                     replace kaT_0_0__205 := cell_below bt_50 kaT_0_0__205
                     replace kaT_0_1__206 := cell_below bt_50 kaT_0_1__206
                     replace kx0_26_0 := cell_below bt_50 kx0_26_0
                     replace kx0_26_1 := cell_below bt_50 kx0_26_1
                     replace Ot_15_sizes := Lib.hid (own_below Ot_15_sizes.out bt_50)
                     replace Ot_15_bans := Lib.hid (own_below Ot_15_bans.out bt_50)
                     replace Ot_17 := Lib.hid (own_below Ot_17.out bt_50)
                     replace Ot_25_sizes := Lib.hid (own_below Ot_25_sizes.out bt_50)
                     replace Ot_25_bans := Lib.hid (own_below Ot_25_bans.out bt_50)
                     replace Ot_29 := Lib.hid (own_below Ot_29.out bt_50)
                     clear bt_50
                     clear qt_50)
                  | (go_at_call 17
                     refine (Go.Proofs.Ytekacbjnpeglhaa.GlEqKindTable.C (t_25_sizes) (t_25_bans) (t_50_sizes) (t_50_bans) At_25_sizes ct_25_sizes At_25_bans ct_25_bans At_50_sizes ct_50_sizes At_50_bans ct_50_bans _   (Lib.hid (own_cells Ot_25_sizes.out)) (Lib.hid (own_max Ot_25_sizes.out)) (Lib.hid (own_cells Ot_25_bans.out)) (Lib.hid (own_max Ot_25_bans.out)) (Lib.hid (own_cells Ot_50_sizes.out)) (Lib.hid (own_max Ot_50_sizes.out)) (Lib.hid (own_cells Ot_50_bans.out)) (Lib.hid (own_max Ot_50_bans.out)) qt_51).mono ?_
                     rintro e_t_51 wt_51 ⟨rfl, bt_51⟩
                     have HBwt_51 := Lib.hid (Below.step HBwt_50.out bt_51)
                     replace kaT_0_0__205 := cell_below bt_51 kaT_0_0__205
                     replace kaT_0_1__206 := cell_below bt_51 kaT_0_1__206
                     replace kx0_26_0 := cell_below bt_51 kx0_26_0
                     replace kx0_26_1 := cell_below bt_51 kx0_26_1
                     replace Ot_15_sizes := Lib.hid (own_below Ot_15_sizes.out bt_51)
                     replace Ot_15_bans := Lib.hid (own_below Ot_15_bans.out bt_51)
                     replace Ot_17 := Lib.hid (own_below Ot_17.out bt_51)
                     replace Ot_25_sizes := Lib.hid (own_below Ot_25_sizes.out bt_51)
                     replace Ot_25_bans := Lib.hid (own_below Ot_25_bans.out bt_51)
                     replace Ot_29 := Lib.hid (own_below Ot_29.out bt_51)
                     replace Ot_50_sizes := Lib.hid (own_below Ot_50_sizes.out bt_51)
                     replace Ot_50_bans := Lib.hid (own_below Ot_50_bans.out bt_51)
                     clear bt_51
                     clear qt_51))
            replace H := ite_f H
            replace H := bind_hid H
            obtain ⟨t_56, qt_56, H⟩ := H
            go_wp2_with fail
            go_at_call 19
            refine (Go.Proofs.Ytekacbjnpeglhaa.GlToIntS.C (aKind) A1 c1 _   (Lib.hid (Cells.below M1.out HBwt_51.out)) N1 qt_56).mono ?_
            rintro e_t_56 wt_56 ⟨At_56, ct_56, rfl, ot_56, bt_56⟩
            have Dt_56_t_15_sizes := Lib.hid (apart_call ot_56 Ot_15_sizes.out)
            have Dt_56_t_15_bans := Lib.hid (apart_call ot_56 Ot_15_bans.out)
            have Dt_56_t_17 := Lib.hid (apart_call ot_56 Ot_17.out)
            have Dt_56_t_25_sizes := Lib.hid (apart_call ot_56 Ot_25_sizes.out)
            have Dt_56_t_25_bans := Lib.hid (apart_call ot_56 Ot_25_bans.out)
            have Dt_56_t_29 := Lib.hid (apart_call ot_56 Ot_29.out)
            have Dt_56_t_50_sizes := Lib.hid (apart_call ot_56 Ot_50_sizes.out)
            have Dt_56_t_50_bans := Lib.hid (apart_call ot_56 Ot_50_bans.out)
            have Dt_56_aT_0 := Lib.hid (apart_callbox ot_56 kaT_0_0__205)
            have Dt_56_x0_26 := Lib.hid (apart_callbox ot_56 kx0_26_0)
            have Ot_56 := Lib.hid (own_lower ot_56 HBwt_51.out.size)
            clear ot_56
            have HBwt_56 := Lib.hid (Below.step HBwt_51.out bt_56)
            replace kaT_0_0__205 := cell_below bt_56 kaT_0_0__205
            replace kaT_0_1__206 := cell_below bt_56 kaT_0_1__206
            replace kx0_26_0 := cell_below bt_56 kx0_26_0
            replace kx0_26_1 := cell_below bt_56 kx0_26_1
            replace Ot_15_sizes := Lib.hid (own_below Ot_15_sizes.out bt_56)
            replace Ot_15_bans := Lib.hid (own_below Ot_15_bans.out bt_56)
            replace Ot_17 := Lib.hid (own_below Ot_17.out bt_56)
            replace Ot_25_sizes := Lib.hid (own_below Ot_25_sizes.out bt_56)
            replace Ot_25_bans := Lib.hid (own_below Ot_25_bans.out bt_56)
            replace Ot_29 := Lib.hid (own_below Ot_29.out bt_56)
            replace Ot_50_sizes := Lib.hid (own_below Ot_50_sizes.out bt_56)
            replace Ot_50_bans := Lib.hid (own_below Ot_50_bans.out bt_56)
            clear bt_56
            replace H := bind_hid H
            obtain ⟨t_57, qt_57, H⟩ := H
            go_wp2_with fail
            go_at_call 21
            refine (Go.Proofs.Ytekacbjnpeglhaa.GlEqIntS.C (t_29) (t_56) At_29 ct_29 At_56 ct_56 _   (Lib.hid (own_cells Ot_29.out)) (Lib.hid (own_max Ot_29.out)) (Lib.hid (own_cells Ot_56.out)) (Lib.hid (own_max Ot_56.out)) qt_57).mono ?_
            rintro e_t_57 wt_57 ⟨rfl, bt_57⟩
            have HBwt_57 := Lib.hid (Below.step HBwt_56.out bt_57)
            replace kaT_0_0__205 := cell_below bt_57 kaT_0_0__205
            replace kaT_0_1__206 := cell_below bt_57 kaT_0_1__206
            replace kx0_26_0 := cell_below bt_57 kx0_26_0
            replace kx0_26_1 := cell_below bt_57 kx0_26_1
            replace Ot_15_sizes := Lib.hid (own_below Ot_15_sizes.out bt_57)
            replace Ot_15_bans := Lib.hid (own_below Ot_15_bans.out bt_57)
            replace Ot_17 := Lib.hid (own_below Ot_17.out bt_57)
            replace Ot_25_sizes := Lib.hid (own_below Ot_25_sizes.out bt_57)
            replace Ot_25_bans := Lib.hid (own_below Ot_25_bans.out bt_57)
            replace Ot_29 := Lib.hid (own_below Ot_29.out bt_57)
            replace Ot_50_sizes := Lib.hid (own_below Ot_50_sizes.out bt_57)
            replace Ot_50_bans := Lib.hid (own_below Ot_50_bans.out bt_57)
            replace Ot_56 := Lib.hid (own_below Ot_56.out bt_57)
            clear bt_57
            cases t_57 with
            | false =>
              replace H := let_hid H
              obtain ⟨t_58, ht_58, H⟩ := H
              obtain rfl : t_58 = true := ht_58.symm
              replace H := ite_t H
              obtain rfl := ret_hid H
              go_wp2_with fail
              go_ret
              exact ⟨rfl, HBwt_57.out⟩
            | true =>
              replace H := let_hid H
              obtain ⟨t_58, ht_58, H⟩ := H
              obtain rfl : t_58 = false := ht_58.symm
              replace H := ite_f H
              obtain rfl := ret_hid H
              go_wp2_with fail
              go_ret
              exact ⟨rfl, HBwt_57.out⟩
        | true =>
          replace H := ite_t H
          obtain rfl := ret_hid H
          go_wp2_with fail
          go_ret
          exact ⟨rfl, HBwt_33.out⟩
      | true =>
        replace H := ite_t H
        replace H := app_hid H
        replace H := ite_t H
        obtain rfl := ret_hid H
        go_wp2_with fail
        go_ret
        exact ⟨rfl, HBwt_33.out⟩
    | true =>
      replace H := ite_t H
      obtain rfl := ret_hid H
      go_wp2_with fail
      go_ret
      exact ⟨rfl, HBwt_9.out⟩
  | true =>
    have nht_4 : 1048576 < aKind.length := by have := of_decide_eq_true ht_4; omega
    replace H := ite_t H
    obtain rfl := ret_hid H
    go_wp2_with fail
    go_ret
    exact ⟨rfl, HBw_aT_0.out⟩
end Go.Proofs.Ytekacbjnpeglhaa.GlFnExactIsCompatible

/- Words for a list of ints that is built by appends into memory of its own, and for the answer '([]int, bool)'. No condition. -/
namespace Go.Proofs.Ytekacbjnpeglhaa.OutInt
set_option linter.unusedVariables false
open Go.RowKit
open Go.Proofs.Ytekacbjnpeglhaa.Rowed Go.Proofs.Ytekacbjnpeglhaa.HelpInt

/-- 'A' holds the list r in memory that was not there in w; nothing that was there has turned -/
structure Keeps (w : World) (A : Option Addr) (c : Nat) (r : List Int) (wr : World) : Prop where
  own : wr.ownsRow w.heap.size 3 1 (.slice A r.length c) r.length (iv r)
  bel : Below w.heap.size w wr
theorem Keeps.start {w wr : World} (hb : Below w.heap.size w wr) : Keeps w (some ⟨wr.heap.size, 0, none⟩) 0 [] (wr.alloc (.cells #[] 3)) :=
  ⟨⟨rfl, .inr ⟨wr.heap.size, 0, #[], rfl, hb.size, heap_alloc_new wr _, Nat.le_refl _, by unfold maxLen; omega, rfl, rfl⟩⟩, hb.alloc hb.size _⟩
theorem Keeps.next {w wr w1 : World} {A : Option Addr} {c : Nat} {r : List Int} (h : Keeps w A c r wr) (hb : Below wr.heap.size wr w1) : Keeps w A c r w1 :=
  ⟨own_below h.own hb, Below.step h.bel hb⟩
theorem Keeps.alloc {w wr : World} {A : Option Addr} {c : Nat} {r : List Int} (h : Keeps w A c r wr) (o : Obj) : Keeps w A c r (wr.alloc o) := h.next ((Below.refl _ _).alloc (Nat.le_refl _) o)
theorem Keeps.push {w wX w3 : World} {A : Option Addr} {c : Nat} {r : List Int} {v' : Value} {x : Int} (h : Keeps w A c r wX)
    (hown : w3.ownsRow w.heap.size 3 1 v' (r.length + 1) (iv r ++ [.int .i64 x])) (hg : wX.grownBy w3 (Value.slice A r.length c).ownBlock) :
    ∃ g cap, v' = .slice (some ⟨g, 0, none⟩) (r ++ [x]).length cap ∧ Keeps w (some ⟨g, 0, none⟩) cap (r ++ [x]) w3 := by
  have el : (r ++ [x]).length = r.length + 1 := by simp
  obtain ⟨g, cap, rfl⟩ : ∃ g cap, v' = .slice (some ⟨g, 0, none⟩) (r.length + 1) cap := by
    rcases hown.2 with ⟨_, h⟩ | ⟨g3, cap3, _, h, _⟩
    · omega
    · exact ⟨g3, cap3, h⟩
  refine ⟨g, cap, by rw [el], ?_, ?_⟩
  · rw [el, iv_snoc]; exact hown
  · exact h.bel.grown hg h.bel.size (fun q hq => (h.own.lt q hq).1)
theorem own_lower {w : World} {b base n size : Nat} {v : Value} {e : TypeId} {xs : List Value} (h : w.ownsRow base e size v n xs) (hb : b ≤ base) : w.ownsRow b e size v n xs :=
  ⟨h.1, by
    rcases h.2 with h0 | ⟨g, cap, cur, hv, hb', rest⟩
    · exact .inl h0
    · exact .inr ⟨g, cap, cur, hv, Nat.le_trans hb hb', rest⟩⟩
theorem Keeps.lower {w w2 wr : World} {A : Option Addr} {c : Nat} {r : List Int} (h : Keeps w2 A c r wr) (hb : Below w.heap.size w w2) : Keeps w A c r wr :=
  ⟨own_lower h.own hb.size, Below.step hb h.bel⟩
theorem infoI : (Try.prog.info? 3).map (fun i => (i.zero, i.size, i.bytes)) = some (some (.int .i64 0), 1, 8) := by kernel_rfl
theorem info_parts {P : Program} {T : TypeId} {z : Value} {s b : Nat} (h : (P.info? T).map (fun i => (i.zero, i.size, i.bytes)) = some (some z, s, b)) : ∃ i, P.info? T = some i ∧ i.zero = some z ∧ i.size = s ∧ i.bytes = b := by
  cases hi : P.info? T with
  | none => rw [hi] at h; simp at h
  | some i => rw [hi] at h; simp at h; exact ⟨i, rfl, h.1, h.2.1, h.2.2⟩
theorem cell_one_at {w : World} {v : Value} {e : TypeId} {g : Nat} (hg : g = w.heap.size) : ∀ j u, [v][j]? = some u → (w.alloc (.cells #[v] e)).cell? ((⟨g, 0, none⟩ : Addr).add j) = some u := fun j u hj => by
  subst hg; exact cell_one_new w v e j u hj

/-- the answer: a list in memory of its own, and whether it is one -/
def OutPost : List Int × Bool → World → Ending → World → Prop
  | (r, b), w, e, w' => ∃ A c, e = .returned (.tuple #[.slice A r.length c, .bool b]) ∧ Keeps w A c r w'
/-- the answer with a number -/
def OutNPost : List Int × Int × Bool → World → Ending → World → Prop
  | (r, n, b), w, e, w' => ∃ A c, e = .returned (.tuple #[.slice A r.length c, .int .i64 n, .bool b]) ∧ Keeps w A c r w'
end Go.Proofs.Ytekacbjnpeglhaa.OutInt

/- The contracts of the laws' helpers toIntS and szIntS. Condition: the slice reads as a list of ints. -/
namespace Go.Proofs.Ytekacbjnpeglhaa.RInt
set_option linter.unusedVariables false
open Go.RowKit
open Go.Proofs.Ytekacbjnpeglhaa.Rowed Go.Proofs.Ytekacbjnpeglhaa.HelpInt

theorem infoI : (Try.prog.info? 3).map (fun i => (i.zero, i.size, i.bytes)) = some (some (.int .i64 0), 1, 8) := by kernel_rfl
theorem info_parts {P : Program} {T : TypeId} {z : Value} {s b : Nat} (h : (P.info? T).map (fun i => (i.zero, i.size, i.bytes)) = some (some z, s, b)) : ∃ i, P.info? T = some i ∧ i.zero = some z ∧ i.size = s ∧ i.bytes = b := Aid.info_parts h
theorem sz_neg (A : Option Addr) (n c left : Nat) (w : World) (h : left < n) (hl : left ≤ 1048576) (hn : n ≤ 9223372036854775807) :
    Calls Try.prog 51 #[.slice A n c, .int .i64 left] w fun e w' => e = .returned (.int .i64 (-1)) ∧ w = w' := by
  go_enter Try.func51, Try.ntmps51
  go_wp2
  go_ret
  exact ⟨rfl, rfl⟩
theorem sz_pos (A : Option Addr) (n c left : Nat) (w : World) (h : n ≤ left) (hl : left ≤ 1048576) :
    Calls Try.prog 51 #[.slice A n c, .int .i64 left] w fun e w' => e = .returned (.int .i64 ((left - n : Nat) : Int)) ∧ w = w' := by
  have e : ((left - n : Nat) : Int) = (left : Int) - (n : Int) := by omega
  rw [e]
  clear e
  go_enter Try.func51, Try.ntmps51
  go_wp2
  go_ret
  exact ⟨rfl, rfl⟩
/-- toIntS: a new row with the same ints -/
def ToPost (l : List Int) (w : World) (e : Ending) (w' : World) : Prop :=
  ∃ g, e = .returned (.slice (some ⟨g, 0, none⟩) l.length l.length) ∧ w'.ownsRow w.heap.size 3 1 (.slice (some ⟨g, 0, none⟩) l.length l.length) l.length (iv l) ∧ Below w.heap.size w w'
def RelTo (l : List Int) (ys : List Value) (w : World) (k : Nat) (wr : World) : Prop :=
  wr.ownsRow w.heap.size 3 1 (.slice (some ⟨w.heap.size, 0, none⟩) l.length l.length) l.length (fill (iv l) ys k) ∧ Below w.heap.size w wr
theorem rel_start {l : List Int} {w w1 : World} {ys : List Value} (h : w1.ownsRow w.heap.size 3 1 (.slice (some ⟨w.heap.size, 0, none⟩) l.length l.length) l.length ys) (hg : w.grownBy w1 none) :
    ∃ zs : List Value, Hid (zs.length = l.length) ∧ RelTo l zs w 0 w1 :=
  ⟨ys, Lib.hid (by have := h.1; omega), by rw [fill_zero]; exact h, (Below.refl _ _).grown hg (Nat.le_refl _) (by simp)⟩
theorem rel_round {l : List Int} {ys : List Value} {w wr : World} {k : Nat} {x : Int} (h : RelTo l ys w k wr) (hy : Hid (ys.length = l.length)) (hx : l[k]? = some x) :
    ∃ y, wr.cell? ⟨w.heap.size, k, none⟩ = some y ∧ wr.frozen? ⟨w.heap.size, k, none⟩ = false ∧ RelTo l ys w (k + 1) (wr.setCell ⟨w.heap.size, k, none⟩ (.int .i64 x)) := by
  have hy' : ys.length = l.length := hy
  have hk := (List.getElem?_eq_some_iff.1 hx).1
  have hlen : (fill (iv l) ys k).length = l.length := by rw [fill_len _ _ _ (by rw [iv_len]; exact hy')]; exact hy'
  have hc := h.1.cellAt k (by omega)
  rw [List.getElem?_eq_getElem (by omega)] at hc
  refine ⟨_, hc, h.1.frozenAt k, ?_, h.2.setCell (Nat.le_refl _) _⟩
  have := (h.1.stored k (.int .i64 x)).1
  rw [fill_set _ _ _ _ (by omega) (by rw [iv_at, hx]; rfl)] at this
  exact this
theorem rel_end {l : List Int} {ys : List Value} {w wr : World} (h : RelTo l ys w l.length wr) (hy : Hid (ys.length = l.length)) :
    wr.ownsRow w.heap.size 3 1 (.slice (some ⟨w.heap.size, 0, none⟩) l.length l.length) l.length (iv l) ∧ Below w.heap.size w wr := by
  have hy' : ys.length = l.length := hy
  have e := fill_all (iv l) ys (by rw [iv_len]; exact hy')
  rw [iv_len] at e
  have h1 := h.1
  rw [e] at h1
  exact ⟨h1, h.2⟩

set_option maxHeartbeats 800000 in
theorem to_any (A : Option Addr) (c : Nat) (l : List Int) (w : World) (h : Ints w A l.length l) (hn : l.length ≤ 1048576) :
    Calls Try.prog 19 #[.slice A l.length c] w (ToPost l w) := by
  obtain ⟨i0, hi, hz0, hz1, hz2⟩ := info_parts infoI
  have HH := Lib.hid h
  clear h
  go_enter Try.func19, Try.ntmps19
  go_wp2_with (at_make; refine wpList_make_full _ rfl _ _ 22 rfl w.heap.size 3 i0 (.int .i64 0) 1 Try.underlying22 hi hz0 hz1 .i64 .i64 _ _ l.length rfl rfl rfl rfl (by rw [hz2]; omega) (by unfold maxLen; omega) (Nat.le_refl _) ?_; intro w1 hO hG; obtain ⟨ys, hys, hR0⟩ := rel_start hO hG; clear hO hG)
  go_loopw [4] (fun i wr => ∃ k : Nat, k ≤ l.length ∧ i = .int .i64 k ∧ RelTo l ys w k wr) (fun i _ => l.length - (intOf i).toNat)
  case atStart => exact ⟨0, Nat.zero_le _, rfl, hR0⟩
  case round =>
    obtain ⟨k, hk, rfl, hR⟩ := hrel
    by_cases hlt : k < l.length
    · obtain ⟨ab, ao, x, rfl, hx, hcell0⟩ := Ints.at_ HH.out hlt
      have hcell := cell_below hR.2 hcell0
      obtain ⟨y, hc, hf, hset⟩ := rel_round hR hys hx
      have HS := Lib.hid hset
      clear hR hx hcell0 hset
      go_wp2
      go_roundw
      case rel => exact ⟨k + 1, by omega, by go_num, HS.out⟩
      case measure => simp [intOf]; omega
    · obtain rfl : k = l.length := by omega
      have HF := Lib.hid (rel_end hR hys)
      clear hR
      go_wp2
      go_ret
      exact ⟨_, rfl, HF.out⟩
end Go.Proofs.Ytekacbjnpeglhaa.RInt

/- Plain words on stamps: what a stamp is, when one is valid, when a list of them is; the cells of a list of records. No condition. -/
namespace Go.Proofs.Ytekacbjnpeglhaa.PlainStamp
set_option linter.unusedVariables false

/-- a number lies in a..b -/
def inB (x a b : Int) : Bool := decide (a ≤ x ∧ x ≤ b)
theorem inB_yes {x a b : Int} (h1 : a ≤ x) (h2 : x ≤ b) : inB x a b = true := by unfold inB; exact decide_eq_true ⟨h1, h2⟩
theorem inB_of {x a b : Int} (h : inB x a b = true) : a ≤ x ∧ x ≤ b := by unfold inB at h; exact of_decide_eq_true h
theorem inB_no {x a b : Int} (h : x < a ∨ b < x) : inB x a b = false := by unfold inB; exact decide_eq_false (by omega)

structure St where
  id : Int
  face : Int
  color : Int
  year : Int
deriving DecidableEq

def St.cells (s : St) : List Value := [.int .i64 s.id, .int .i64 s.face, .int .i64 s.color, .int .i64 s.year]
def St.val (s : St) : Value := .agg #[.int .i64 s.id, .int .i64 s.face, .int .i64 s.color, .int .i64 s.year]
/-- each field fits an int -/
def St.fits (s : St) : Prop := (Lit.int .i64 s.id).wf = true ∧ (Lit.int .i64 s.face).wf = true ∧ (Lit.int .i64 s.color).wf = true ∧ (Lit.int .i64 s.year).wf = true

def okSt (s : St) : Bool := inB s.id 1 999 && inB s.face 0 9999 && inB s.color 0 99 && inB s.year 1840 2100
theorem okSt_yes {s : St} (h : okSt s = true) : (1 ≤ s.id ∧ s.id ≤ 999) ∧ (0 ≤ s.face ∧ s.face ≤ 9999) ∧ (0 ≤ s.color ∧ s.color ≤ 99) ∧ (1840 ≤ s.year ∧ s.year ≤ 2100) := by
  unfold okSt at h
  simp only [Bool.and_eq_true] at h
  exact ⟨inB_of h.1.1.1, inB_of h.1.1.2, inB_of h.1.2, inB_of h.2⟩

/-- the stamp at k is valid, and its id is above the one ahead of it -/
def okAt (l : List St) (k : Nat) : Bool :=
  match l[k]? with
  | none => true
  | some s => okSt s && (decide (k = 0) || (match l[k-1]? with | none => true | some r => decide (r.id < s.id)))
def okUp (l : List St) (k : Nat) : Bool := (List.range k).all (okAt l)
theorem okUp_zero (l : List St) : okUp l 0 = true := by simp [okUp]
theorem okUp_succ (l : List St) (k : Nat) : okUp l (k + 1) = (okUp l k && okAt l k) := by simp [okUp, List.range_succ, List.all_append]
theorem okUp_not {l : List St} {k n : Nat} (h : okAt l k = false) (hk : k < n) : okUp l n = false := by
  unfold okUp
  rw [Bool.eq_false_iff]
  intro hall
  have := List.all_eq_true.1 hall k (List.mem_range.2 hk)
  rw [h] at this; exact absurd this (by simp)
/-- a list of at most twelve valid stamps with rising ids -/
def okSts (l : List St) : Bool := decide (l.length ≤ 12) && okUp l l.length
theorem okAt_of {l : List St} {k : Nat} {s : St} (hs : l[k]? = some s) (h : okAt l k = true) : okSt s = true ∧ ∀ r, 0 < k → l[k-1]? = some r → r.id < s.id := by
  unfold okAt at h
  rw [hs] at h
  simp only [Bool.and_eq_true, Bool.or_eq_true, decide_eq_true_eq] at h
  refine ⟨h.1, fun r hk hr => ?_⟩
  rcases h.2 with h0 | h0
  · omega
  · rw [hr] at h0; simpa using h0
theorem okSts_len {l : List St} (h : okSts l = true) : l.length ≤ 12 := by unfold okSts at h; simp only [Bool.and_eq_true, decide_eq_true_eq] at h; exact h.1
theorem okSts_at {l : List St} (h : okSts l = true) {k : Nat} {s : St} (hs : l[k]? = some s) : okSt s = true ∧ ∀ r, 0 < k → l[k-1]? = some r → r.id < s.id := by
  unfold okSts at h
  simp only [Bool.and_eq_true, decide_eq_true_eq] at h
  exact okAt_of hs (List.all_eq_true.1 h.2 k (List.mem_range.2 (List.getElem?_eq_some_iff.1 hs).1))
theorem okSts_mem {l : List St} (h : okSts l = true) {s : St} (hs : s ∈ l) : okSt s = true := by
  obtain ⟨k, hk⟩ := List.getElem?_of_mem hs
  exact (okSts_at h hk).1

/-- the cells of a list of stamps, one after the other -/
def flat (l : List St) : List Value := l.flatMap St.cells
theorem flat_nil : flat [] = [] := rfl
theorem flat_cons (s : St) (l : List St) : flat (s :: l) = s.cells ++ flat l := by simp [flat]
theorem flat_len (l : List St) : (flat l).length = l.length * 4 := by
  induction l with
  | nil => rfl
  | cons s l ih => rw [flat_cons, List.length_append, ih]; simp [St.cells]; omega
theorem flat_at : ∀ (l : List St) (k : Nat) (s : St), l[k]? = some s → ∀ j, j < 4 → (flat l)[k * 4 + j]? = s.cells[j]?
  | [], k, s, h, _, _ => by simp at h
  | r :: l, 0, s, h, j, hj => by
    obtain rfl : r = s := by simpa using h
    rw [flat_cons, List.getElem?_append_left (by simp [St.cells]; omega)]; simp
  | r :: l, k + 1, s, h, j, hj => by
    rw [flat_cons, List.getElem?_append_right (by simp [St.cells]; omega), show (k + 1) * 4 + j - r.cells.length = k * 4 + j by simp [St.cells]; omega]
    exact flat_at l k s (by simpa using h) j hj
end Go.Proofs.Ytekacbjnpeglhaa.PlainStamp

/- Words for reckoning with plain functions; within and l1In. No condition. -/
namespace Go.Proofs.Ytekacbjnpeglhaa.QBase
set_option linter.unusedVariables false
set_option linter.unusedSimpArgs false
open Go.RowKit
open Go.Proofs.Ytekacbjnpeglhaa.GoP Go.Proofs.Ytekacbjnpeglhaa.PlainStamp

theorem iteK_if {ρ : Type} (c : Bool) (a b : Option ρ) : iteK c a b = if c = true then a else b := by cases c <;> rfl
theorem bind2_some {α β ρ : Type} (a : α) (b : β) (f : α → β → Option ρ) : bind2 (some (a, b)) f = f a b := rfl
theorem bind3_some {α β γ ρ : Type} (a : α) (b : β) (c : γ) (f : α → β → γ → Option ρ) : bind3 (some (a, b, c)) f = f a b c := rfl
theorem unp2_mk {α β ρ : Type} (a : α) (b : β) (f : α → β → Option ρ) : unp2 (a, b) f = f a b := rfl
theorem unp3_mk {α β γ ρ : Type} (a : α) (b : β) (c : γ) (f : α → β → γ → Option ρ) : unp3 (a, b, c) f = f a b c := rfl
theorem guardK_pos {ρ : Type} {p : Prop} [Decidable p] {a : Option ρ} (h : p) : guardK p a = a := if_pos h
theorem cut2 {α β : Type} {x : Option (α × β)} {p : α × β} (h : x = some p) : x = some (p.1, p.2) := h
theorem cut3 {α β γ : Type} {x : Option (α × β × γ)} {p : α × β × γ} (h : x = some p) : x = some (p.1, p.2.1, p.2.2) := h
theorem within_eq (n a b : Int) : GiWithin.P n a b = some (inB n a b) := by
  simp only [GiWithin.P, letK, joinK, appK, iteK_if, inB]
  by_cases h1 : a ≤ n <;> by_cases h2 : n ≤ b <;> simp [h1, h2]
theorem l1In_eq (n a b : Int) : GsL1In.P n a b = some (inB n a b) := by
  simp only [GsL1In.P, letK, joinK, appK, iteK_if, inB]
  by_cases h1 : a ≤ n <;> by_cases h2 : n ≤ b <;> simp [h1, h2]
end Go.Proofs.Ytekacbjnpeglhaa.QBase

/- Reckoning with the loops of plain functions; lists of valid records with rising ids. No condition. -/
namespace Go.Proofs.Ytekacbjnpeglhaa.QLoop
set_option linter.unusedVariables false
open Go.RowKit
open Go.Proofs.Ytekacbjnpeglhaa.GoP Go.Proofs.Ytekacbjnpeglhaa.QBase

theorem cnt_ex {σ ρ : Type} {f : Nat → σ → (σ → Option ρ) → (σ → Option ρ) → Option ρ} {fin : σ → Option ρ} {Q : ρ → Prop} {n : Nat} (I : Nat → σ → Prop)
    (step : ∀ k s nx, k < n → I k s → (∀ s', I (k + 1) s' → ∃ r, nx s' = some r ∧ Q r) → ∃ r, f k s nx fin = some r ∧ Q r) (done : ∀ s, I n s → ∃ r, fin s = some r ∧ Q r) :
    ∀ m k s, k + m = n → I k s → ∃ r, cntK f m k s fin = some r ∧ Q r := by
  intro m
  induction m with
  | zero => intro k s hk hI; obtain rfl : k = n := by omega
            exact done s hI
  | succ m ih => intro k s hk hI; exact step k s _ (by omega) hI (fun s' h' => ih (k + 1) s' (by omega) h')
theorem cnt_is {σ ρ : Type} {f : Nat → σ → (σ → Option ρ) → (σ → Option ρ) → Option ρ} {fin : σ → Option ρ} {n : Nat} (r : ρ) (I : Nat → σ → Prop)
    (step : ∀ k s nx, k < n → I k s → (∀ s', I (k + 1) s' → nx s' = some r) → f k s nx fin = some r) (done : ∀ s, I n s → fin s = some r) (s : σ) (h0 : I 0 s) : cntK f n 0 s fin = some r := by
  obtain ⟨r', h, rfl⟩ := cnt_ex (Q := fun x => x = r) I (fun k s nx hk hI hn => ⟨r, step k s nx hk hI (fun s' h' => by obtain ⟨_, h, rfl⟩ := hn s' h'; exact h), rfl⟩) (fun s h => ⟨r, done s h, rfl⟩) n 0 s (by omega) h0
  exact h
theorem at_lt {α : Type} {l : List α} {k : Nat} (h : k < l.length) : ∃ x, l[k]? = some x ∧ idx l (k : Int) = some x := ⟨l[k], List.getElem?_eq_getElem h, by rw [idx_nat, List.getElem?_eq_getElem h]⟩
theorem idx_pred {α : Type} {l : List α} {k : Nat} {x : α} (hk : 0 < k) (hb : k ≤ 9223372036854775807) (h : l[k - 1]? = some x) : idx l (IntKind.i64.wrap ((k : Int) - 1)) = some x := by
  rw [IntWalk.i64_in _ (by omega), show ((k : Int) - 1) = ((k - 1 : Nat) : Int) by omega, idx_nat, h]
theorem take_next {α : Type} {l : List α} {k : Nat} {x : α} (h : l[k]? = some x) : l.take (k + 1) = l.take k ++ [x] := by
  obtain ⟨hk, e⟩ := List.getElem?_eq_some_iff.1 h
  rw [List.take_succ_eq_append_getElem hk, e]
theorem all_next {α : Type} {p : α → Bool} {l : List α} {k : Nat} {x : α} (h : l[k]? = some x) : (l.take (k + 1)).all p = ((l.take k).all p && p x) := by
  rw [take_next h]; simp
theorem not_all {α : Type} {p : α → Bool} {l : List α} {k : Nat} {x : α} (h : l[k]? = some x) (hp : p x = false) : l.all p = false := by
  rw [Bool.eq_false_iff]
  intro ha
  have := List.all_eq_true.1 ha x (List.mem_of_getElem? h)
  rw [hp] at this; exact absurd this (by simp)
theorem wrap_in {x : Int} (h1 : -9223372036854775808 ≤ x) (h2 : x ≤ 9223372036854775807) : IntKind.i64.wrap x = x := IntWalk.i64_in _ (by omega)

/-- valid, and above the one ahead of it -/
def upAt {α : Type} (ok : α → Bool) (id : α → Int) (l : List α) (k : Nat) : Bool :=
  match l[k]? with
  | none => true
  | some s => ok s && (decide (k = 0) || (match l[k-1]? with | none => true | some r => decide (id r < id s)))
def upTo {α : Type} (ok : α → Bool) (id : α → Int) (l : List α) (k : Nat) : Bool := (List.range k).all (upAt ok id l)
theorem upTo_zero {α : Type} (ok : α → Bool) (id : α → Int) (l : List α) : upTo ok id l 0 = true := rfl
theorem upTo_succ {α : Type} (ok : α → Bool) (id : α → Int) (l : List α) (k : Nat) : upTo ok id l (k + 1) = (upTo ok id l k && upAt ok id l k) := by simp [upTo, List.range_succ, List.all_append]
theorem upTo_not {α : Type} {ok : α → Bool} {id : α → Int} {l : List α} {k n : Nat} (h : upAt ok id l k = false) (hk : k < n) : upTo ok id l n = false := by
  unfold upTo
  rw [Bool.eq_false_iff]
  intro ha
  have := List.all_eq_true.1 ha k (List.mem_range.2 hk)
  rw [h] at this; exact absurd this (by simp)
/-- a list of at most m valid records with rising ids -/
def upL {α : Type} (m : Nat) (ok : α → Bool) (id : α → Int) (l : List α) : Bool := decide (l.length ≤ m) && upTo ok id l l.length
theorem upAt_bad {α : Type} {ok : α → Bool} {id : α → Int} {l : List α} {k : Nat} {s : α} (hs : l[k]? = some s) (h : ok s = false) : upAt ok id l k = false := by unfold upAt; rw [hs]; simp [h]
theorem upAt_first {α : Type} {ok : α → Bool} {id : α → Int} {l : List α} {s : α} (hs : l[0]? = some s) (h : ok s = true) : upAt ok id l 0 = true := by unfold upAt; rw [hs]; simp [h]
theorem upAt_next {α : Type} {ok : α → Bool} {id : α → Int} {l : List α} {k : Nat} {s r : α} (hs : l[k]? = some s) (hr : l[k-1]? = some r) (hk : 0 < k) (h : ok s = true) : upAt ok id l k = decide (id r < id s) := by
  unfold upAt; rw [hs]; simp only [hr, h, Bool.true_and, decide_eq_false (show ¬ k = 0 by omega), Bool.false_or]
theorem upL_len {α : Type} {m : Nat} {ok : α → Bool} {id : α → Int} {l : List α} (h : upL m ok id l = true) : l.length ≤ m := by unfold upL at h; simp only [Bool.and_eq_true, decide_eq_true_eq] at h; exact h.1
theorem upL_ok {α : Type} {m : Nat} {ok : α → Bool} {id : α → Int} {l : List α} (h : upL m ok id l = true) {k : Nat} {s : α} (hs : l[k]? = some s) : ok s = true := by
  unfold upL at h
  simp only [Bool.and_eq_true, decide_eq_true_eq] at h
  have := List.all_eq_true.1 h.2 k (List.mem_range.2 (List.getElem?_eq_some_iff.1 hs).1)
  unfold upAt at this
  rw [hs] at this
  simp only [Bool.and_eq_true] at this
  exact this.1
theorem upL_mem {α : Type} {m : Nat} {ok : α → Bool} {id : α → Int} {l : List α} (h : upL m ok id l = true) {s : α} (hs : s ∈ l) : ok s = true := by
  obtain ⟨k, hk⟩ := List.getElem?_of_mem hs
  exact upL_ok h hk
/-- a loop that goes through a list of records and stops with 'false' at the first that is bad -/
theorem up_loop {α : Type} {ok : α → Bool} {id : α → Int} {l : List α} {R : Type} {no : R} {f : Nat → Unit → (Unit → Option R) → (Unit → Option R) → Option R} {fin : Unit → Option R}
    (step : ∀ k nx s, l[k]? = some s → (ok s = false → f k () nx fin = some no) ∧ (ok s = true → (k = 0 → f k () nx fin = nx ()) ∧ (0 < k → ∀ r, l[k-1]? = some r → (id r < id s → f k () nx fin = nx ()) ∧ (id s ≤ id r → f k () nx fin = some no)))) :
    cntK f l.length 0 () fin = if upTo ok id l l.length then fin () else some no := by
  have key : ∀ m k, k + m = l.length → upTo ok id l k = true → cntK f m k () fin = if upTo ok id l l.length then fin () else some no := by
    intro m
    induction m with
    | zero => intro k hk hu; obtain rfl : k = l.length := by omega
              rw [hu]; rfl
    | succ m ih =>
      intro k hk hu
      have hlt : k < l.length := by omega
      obtain ⟨s, hs, _⟩ := at_lt hlt
      obtain ⟨h1, h2⟩ := step k (fun s' => cntK f m (k + 1) s' fin) s hs
      show f k () _ fin = _
      cases hok : ok s with
      | false => rw [h1 hok, upTo_not (upAt_bad hs hok) hlt]; rfl
      | true =>
        obtain ⟨h3, h4⟩ := h2 hok
        by_cases hk0 : k = 0
        · rw [h3 hk0]
          subst hk0
          exact ih 1 (by omega) (by rw [upTo_succ, hu, upAt_first hs hok]; rfl)
        · obtain ⟨r, hr, _⟩ := at_lt (l := l) (k := k - 1) (by omega)
          obtain ⟨h5, h6⟩ := h4 (by omega) r hr
          by_cases hlt2 : id r < id s
          · rw [h5 hlt2]
            exact ih (k + 1) (by omega) (by rw [upTo_succ, hu, upAt_next hs hr (by omega) hok]; simpa using hlt2)
          · rw [h6 (by omega), upTo_not (by rw [upAt_next hs hr (by omega) hok]; simpa using hlt2) hlt]; rfl
  exact key l.length 0 (by omega) (upTo_zero ok id l)
end Go.Proofs.Ytekacbjnpeglhaa.QLoop

/- Loops that test each place, and loops without a count. No condition. -/
namespace Go.Proofs.Ytekacbjnpeglhaa.QAll
set_option linter.unusedVariables false
set_option linter.unusedSimpArgs false
open Go.RowKit
open Go.Proofs.Ytekacbjnpeglhaa.GoP Go.Proofs.Ytekacbjnpeglhaa.QBase Go.Proofs.Ytekacbjnpeglhaa.QLoop

/-- each number below n is good -/
def allN (n : Nat) (p : Nat → Bool) : Bool := (List.range n).all p
theorem allN_iff {n : Nat} {p : Nat → Bool} : allN n p = true ↔ ∀ i, i < n → p i = true := by unfold allN; simp
theorem allN_no {n k : Nat} {p : Nat → Bool} (hk : k < n) (h : p k = false) : allN n p = false := by
  rw [Bool.eq_false_iff]; intro ha; rw [allN_iff.1 ha k hk] at h; exact absurd h (by simp)
theorem allN_eq {n m : Nat} {p q : Nat → Bool} (h : (∀ i, i < n → p i = true) ↔ (∀ i, i < m → q i = true)) : allN n p = allN m q := by
  rw [Bool.eq_iff_iff, allN_iff, allN_iff]; exact h
theorem all_cnt {ρ : Type} {n : Nat} {p : Nat → Bool} {no : ρ} {f : Nat → Unit → (Unit → Option ρ) → (Unit → Option ρ) → Option ρ} {fin : Unit → Option ρ}
    (step : ∀ k nx, k < n → (p k = false → f k () nx fin = some no) ∧ (p k = true → f k () nx fin = nx ())) : cntK f n 0 () fin = if allN n p = true then fin () else some no := by
  have key : ∀ m k, k + m = n → (∀ i, i < k → p i = true) → cntK f m k () fin = if allN n p = true then fin () else some no := by
    intro m
    induction m with
    | zero => intro k hk hu; obtain rfl : k = n := by omega
              rw [allN_iff.2 hu]; rfl
    | succ m ih =>
      intro k hk hu
      obtain ⟨h1, h2⟩ := step k (fun s' => cntK f m (k + 1) s' fin) (by omega)
      show f k () _ fin = _
      cases hp : p k with
      | false => rw [h1 hp, allN_no (by omega) hp]; rfl
      | true =>
        rw [h2 hp]
        refine ih (k + 1) (by omega) (fun i hi => ?_)
        by_cases he : i = k
        · rw [he]; exact hp
        · exact hu i (by omega)
  exact key n 0 (by omega) (fun i hi => by omega)
theorem lp_ex {σ ρ : Type} {f : σ → (σ → Option ρ) → (σ → Option ρ) → Option ρ} {fin : σ → Option ρ} {Q : ρ → Prop} {n : Nat} (I : Nat → σ → Prop)
    (step : ∀ k s nx, k < n → I k s → (∀ s', I (k + 1) s' → ∃ r, nx s' = some r ∧ Q r) → ∃ r, f s nx fin = some r ∧ Q r) (done : ∀ s nx, I n s → ∃ r, f s nx fin = some r ∧ Q r) :
    ∀ fuel k s, k ≤ n → n - k < fuel → I k s → ∃ r, loopK f fuel s fin = some r ∧ Q r := by
  intro fuel
  induction fuel with
  | zero => intro k s hk hf; omega
  | succ m ih =>
    intro k s hk hf hI
    show ∃ r, f s _ fin = some r ∧ Q r
    by_cases he : k = n
    · subst he; exact done s _ hI
    · exact step k s _ (by omega) hI (fun s' h' => ih (k + 1) s' (by omega) (by omega) h')
theorem all_lp {ρ : Type} {n : Nat} {p : Nat → Bool} {no : ρ} {f : Int → (Int → Option ρ) → (Int → Option ρ) → Option ρ} {fin : Int → Option ρ}
    (step : ∀ (k : Nat) nx, k < n → (p k = false → f (k : Int) nx fin = some no) ∧ (p k = true → f (k : Int) nx fin = nx ((k + 1 : Nat) : Int))) (stop : ∀ nx, f (n : Int) nx fin = fin (n : Int))
    (fuel : Nat) (hf : n < fuel) : loopK f fuel 0 fin = if allN n p = true then fin (n : Int) else some no := by
  have key : ∀ fuel k, k ≤ n → n - k < fuel → (∀ i, i < k → p i = true) → loopK f fuel (k : Int) fin = if allN n p = true then fin (n : Int) else some no := by
    intro fuel
    induction fuel with
    | zero => intro k hk hf; omega
    | succ m ih =>
      intro k hk hf hu
      show f (k : Int) _ fin = _
      by_cases he : k = n
      · subst he; rw [stop, allN_iff.2 hu]; rfl
      · obtain ⟨h1, h2⟩ := step k (fun s' => loopK f m s' fin) (by omega)
        cases hp : p k with
        | false => rw [h1 hp, allN_no (by omega) hp]; rfl
        | true =>
          rw [h2 hp]
          refine ih (k + 1) (by omega) (by omega) (fun i hi => ?_)
          by_cases he : i = k
          · rw [he]; exact hp
          · exact hu i (by omega)
  exact key fuel 0 (by omega) (by omega) (fun i hi => by omega)
theorem next_i {k : Nat} (h : k ≤ 9223372036854775806) : IntKind.i64.wrap ((k : Int) + 1) = ((k + 1 : Nat) : Int) := by rw [wrap_in (by omega) (by omega)]; omega
end Go.Proofs.Ytekacbjnpeglhaa.QAll

/- Chapter 6: tables of kinds: the plain functions of the program and of the reference agree, and the laws answer true. (Q6Hist) No condition but those of each theorem. -/
namespace Go.Proofs.Ytekacbjnpeglhaa.Q6Hist
set_option linter.unusedVariables false
set_option linter.unusedSimpArgs false
open Go.RowKit
open Go.Proofs.Ytekacbjnpeglhaa.GoP Go.Proofs.Ytekacbjnpeglhaa.PlainStamp Go.Proofs.Ytekacbjnpeglhaa.QBase Go.Proofs.Ytekacbjnpeglhaa.QLoop Go.Proofs.Ytekacbjnpeglhaa.QAll

/-- loops that test each place; what stood the test before is known -/
theorem all_cntH {ρ : Type} {n : Nat} {p : Nat → Bool} {no : ρ} {f : Nat → Unit → (Unit → Option ρ) → (Unit → Option ρ) → Option ρ} {fin : Unit → Option ρ}
    (step : ∀ k nx, k < n → (∀ i, i < k → p i = true) → (p k = false → f k () nx fin = some no) ∧ (p k = true → f k () nx fin = nx ())) : cntK f n 0 () fin = if allN n p = true then fin () else some no := by
  have key : ∀ m k, k + m = n → (∀ i, i < k → p i = true) → cntK f m k () fin = if allN n p = true then fin () else some no := by
    intro m
    induction m with
    | zero => intro k hk hu; obtain rfl : k = n := by omega
              rw [allN_iff.2 hu]; rfl
    | succ m ih =>
      intro k hk hu
      obtain ⟨h1, h2⟩ := step k (fun s' => cntK f m (k + 1) s' fin) (by omega) hu
      show f k () _ fin = _
      cases hp : p k with
      | false => rw [h1 hp, allN_no (by omega) hp]; rfl
      | true =>
        rw [h2 hp]
        refine ih (k + 1) (by omega) (fun i hi => ?_)
        by_cases he : i = k
        · rw [he]; exact hp
        · exact hu i (by omega)
  exact key n 0 (by omega) (fun i hi => by omega)
theorem all_lpH {ρ : Type} {n : Nat} {p : Nat → Bool} {no : ρ} {f : Int → (Int → Option ρ) → (Int → Option ρ) → Option ρ} {fin : Int → Option ρ}
    (step : ∀ (k : Nat) nx, k < n → (∀ i, i < k → p i = true) → (p k = false → f (k : Int) nx fin = some no) ∧ (p k = true → f (k : Int) nx fin = nx ((k + 1 : Nat) : Int))) (stop : ∀ nx, f (n : Int) nx fin = fin (n : Int))
    (fuel : Nat) (hf : n < fuel) : loopK f fuel 0 fin = if allN n p = true then fin (n : Int) else some no := by
  have key : ∀ fuel k, k ≤ n → n - k < fuel → (∀ i, i < k → p i = true) → loopK f fuel (k : Int) fin = if allN n p = true then fin (n : Int) else some no := by
    intro fuel
    induction fuel with
    | zero => intro k hk hf; omega
    | succ m ih =>
      intro k hk hf hu
      show f (k : Int) _ fin = _
      by_cases he : k = n
      · subst he; rw [stop, allN_iff.2 hu]; rfl
      · obtain ⟨h1, h2⟩ := step k (fun s' => loopK f m s' fin) (by omega) hu
        cases hp : p k with
        | false => rw [h1 hp, allN_no (by omega) hp]; rfl
        | true =>
          rw [h2 hp]
          refine ih (k + 1) (by omega) (by omega) (fun i hi => ?_)
          by_cases he : i = k
          · rw [he]; exact hp
          · exact hu i (by omega)
  exact key fuel 0 (by omega) (by omega) (fun i hi => by omega)
end Go.Proofs.Ytekacbjnpeglhaa.Q6Hist

/- Chapter 6: tables of kinds: the plain functions of the program and of the reference agree, and the laws answer true. (Q6Ban) No condition but those of each theorem. -/
namespace Go.Proofs.Ytekacbjnpeglhaa.Q6Ban
set_option linter.unusedVariables false
set_option linter.unusedSimpArgs false
open Go.RowKit
open Go.Proofs.Ytekacbjnpeglhaa.GoP Go.Proofs.Ytekacbjnpeglhaa.PlainStamp Go.Proofs.Ytekacbjnpeglhaa.QBase Go.Proofs.Ytekacbjnpeglhaa.Q6Hist Go.Proofs.Ytekacbjnpeglhaa.QLoop Go.Proofs.Ytekacbjnpeglhaa.QAll Go.Proofs.Ytekacbjnpeglhaa.PBan

def okS (s : List Int) : Bool := allN s.length fun i => match s[i]? with | some z => inB z 1 5 | none => true
theorem okS_at {s : List Int} (h : okS s = true) {i : Nat} {z : Int} (hz : s[i]? = some z) : 1 ≤ z ∧ z ≤ 5 := by
  have := allN_iff.1 h i (List.getElem?_eq_some_iff.1 hz).1
  simp only [hz] at this
  exact inB_of this
def hasV (s : List Int) (a v : Int) : Bool := inB a 0 (s.length - 1) && (match s[a.toNat]? with | some z => inB v 0 (z - 1) | none => false)
theorem hasV_of {s : List Int} {a v : Int} (h : hasV s a v = true) : ∃ (k : Nat) (z : Int), a = (k : Int) ∧ k < s.length ∧ s[k]? = some z ∧ 0 ≤ v ∧ v < z := by
  unfold hasV at h
  simp only [Bool.and_eq_true] at h
  have h1 := inB_of h.1
  obtain ⟨k, rfl⟩ : ∃ k : Nat, a = (k : Int) := ⟨a.toNat, by omega⟩
  obtain ⟨z, hz, _⟩ := at_lt (l := s) (k := k) (by omega)
  have h2 := h.2
  rw [Int.toNat_natCast, hz] at h2
  have := inB_of h2
  exact ⟨k, z, rfl, by omega, hz, by omega, by omega⟩
theorem hasValue_eq (s : List Int) (hs : okS s = true) (hl : s.length ≤ 9223372036854775807) (a v : Int) : GiHasValue.P s a v = some (hasV s a v) := by
  simp only [GiHasValue.P, within_eq, Option.bind_some, letK, joinK, appK, iteK_if]
  rw [wrap_in (by omega) (by omega)]
  unfold hasV
  cases h : inB a 0 (s.length - 1) with
  | false => simp
  | true =>
    have h1 := inB_of h
    obtain ⟨k, rfl⟩ : ∃ k : Nat, a = (k : Int) := ⟨a.toNat, by omega⟩
    obtain ⟨z, hz, hi⟩ := at_lt (l := s) (k := k) (by omega)
    have hz2 := okS_at hs hz
    simp only [hi, Option.bind_some, Int.toNat_natCast, hz, if_true, Bool.true_and]
    rw [wrap_in (by omega) (by omega)]
def okB (s : List Int) (b : Ban) : Bool := decide (b.a < b.b) && hasV s b.a b.x && hasV s b.b b.y
theorem isBan_eq (s : List Int) (hs : okS s = true) (hl : s.length ≤ 9223372036854775807) (b : Ban) : GiIsBan.P s b = some (okB s b) := by
  obtain ⟨a, x, c, y⟩ := b
  simp only [GiIsBan.P, unBan, hasValue_eq s hs hl, Option.bind_some, letK, joinK, appK, iteK_if, okB]
  by_cases h : a < c <;> cases hasV s a x <;> cases hasV s c y <;> simp [h]
theorem l6Ban_eq (s : List Int) (hs : okS s = true) (hl : s.length ≤ 9223372036854775807) (b : Ban) : GsL6Ban.P s b = some (okB s b) := by
  obtain ⟨a, x, c, y⟩ := b
  simp only [GsL6Ban.P, unBan, l1In_eq, Option.bind_some, letK, joinK, appK, iteK_if, okB, hasV]
  by_cases h1 : 0 ≤ a
  · by_cases h2 : a < c
    · by_cases h3 : c < (s.length : Int)
      · obtain ⟨i, rfl⟩ : ∃ k : Nat, a = (k : Int) := ⟨a.toNat, by omega⟩
        obtain ⟨j, rfl⟩ : ∃ k : Nat, c = (k : Int) := ⟨c.toNat, by omega⟩
        obtain ⟨z, hz, hi⟩ := at_lt (l := s) (k := i) (by omega)
        obtain ⟨u, hu, hj⟩ := at_lt (l := s) (k := j) (by omega)
        have hz2 := okS_at hs hz
        have hu2 := okS_at hs hu
        have e1 : inB (i : Int) 0 (s.length - 1) = true := by unfold inB; simp; omega
        have e2 : inB (j : Int) 0 (s.length - 1) = true := by unfold inB; simp; omega
        simp only [h1, h2, h3, decide_true, if_true, hi, hj, Option.bind_some, Int.toNat_natCast, hz, hu, e1, e2, Bool.true_and]
        rw [wrap_in (x := z - 1) (by omega) (by omega), wrap_in (x := u - 1) (by omega) (by omega)]
        cases inB x 0 (z - 1) <;> simp
      · have e2 : inB c 0 (s.length - 1) = false := by unfold inB; simp; omega
        simp [h1, h2, h3, e2]
    · simp [h1, h2]
  · have e1 : inB a 0 (s.length - 1) = false := by unfold inB; simp; omega
    simp [h1, e1]
def code (b : Ban) : Int := 1000 * b.a + 100 * b.x + 10 * b.b + b.y
theorem okB_in {s : List Int} (hs : okS s = true) (hl : s.length ≤ 5) {b : Ban} (h : okB s b = true) : 0 ≤ b.a ∧ b.a < b.b ∧ b.b ≤ 4 ∧ b.b < s.length ∧ 0 ≤ b.x ∧ b.x ≤ 4 ∧ 0 ≤ b.y ∧ b.y ≤ 4 := by
  unfold okB at h
  simp only [Bool.and_eq_true, decide_eq_true_eq] at h
  obtain ⟨k, z, e1, k1, hz, v1, v2⟩ := hasV_of h.1.2
  obtain ⟨j, u, e2, k2, hu, v3, v4⟩ := hasV_of h.2
  have := okS_at hs hz
  have := okS_at hs hu
  omega
theorem l6Code_eq {s : List Int} (hs : okS s = true) (hl : s.length ≤ 5) {b : Ban} (h : okB s b = true) : GsL6Code.P b = some (code b) := by
  have := okB_in hs hl h
  obtain ⟨a, x, c, y⟩ := b
  dsimp only at this
  simp only [GsL6Code.P, unBan, letK, code]
  rw [wrap_in (x := 1000 * a) (by omega) (by omega), wrap_in (x := 100 * x) (by omega) (by omega), wrap_in (x := 1000 * a + 100 * x) (by omega) (by omega), wrap_in (x := 10 * c) (by omega) (by omega), wrap_in (x := 1000 * a + 100 * x + 10 * c) (by omega) (by omega), wrap_in (by omega) (by omega)]
def cmpI (x y : Int) : Int := if x < y then -1 else if y < x then 1 else 0
theorem cmp_eq (x y : Int) : GxCmpCompareInt.P x y = some (cmpI x y) := by
  simp only [GxCmpCompareInt.P, GxCmpIsNaNInt.P, Option.bind_some, letK, iteK_if, cmpI]
  by_cases h1 : x < y
  · simp [h1]
  · by_cases h2 : y < x <;> simp [h1, h2]
theorem or_eq (a b c d : Int) : GxCmpOrInt.P [a, b, c, d] = some (if a != 0 then a else if b != 0 then b else if c != 0 then c else d) := by
  have st : ∀ m k fin, cntK (GxCmpOrInt.l0 [a, b, c, d]) (m + 1) k () fin = GxCmpOrInt.l0 [a, b, c, d] k () (fun s' => cntK (GxCmpOrInt.l0 [a, b, c, d]) m (k + 1) s' fin) fin := fun _ _ _ => rfl
  show cntK (GxCmpOrInt.l0 [a, b, c, d]) (3 + 1) 0 () (GxCmpOrInt.e0) = _
  rw [st]
  simp only [GxCmpOrInt.l0, show idx [a, b, c, d] ((0 : Nat) : Int) = some a from rfl, Option.bind_some, letK, appK, iteK_if]
  by_cases ha : (a != 0) = true
  · rw [if_pos ha, if_pos ha]
  · rw [if_neg ha, if_neg ha]
    show cntK (GxCmpOrInt.l0 [a, b, c, d]) (2 + 1) 1 () (GxCmpOrInt.e0) = _
    rw [st]
    simp only [GxCmpOrInt.l0, show idx [a, b, c, d] ((1 : Nat) : Int) = some b from rfl, Option.bind_some, letK, appK, iteK_if]
    by_cases hb : (b != 0) = true
    · rw [if_pos hb, if_pos hb]
    · rw [if_neg hb, if_neg hb]
      show cntK (GxCmpOrInt.l0 [a, b, c, d]) (1 + 1) 2 () (GxCmpOrInt.e0) = _
      rw [st]
      simp only [GxCmpOrInt.l0, show idx [a, b, c, d] ((2 : Nat) : Int) = some c from rfl, Option.bind_some, letK, appK, iteK_if]
      by_cases hc : (c != 0) = true
      · rw [if_pos hc, if_pos hc]
      · rw [if_neg hc, if_neg hc]
        show cntK (GxCmpOrInt.l0 [a, b, c, d]) (0 + 1) 3 () (GxCmpOrInt.e0) = _
        rw [st]
        simp only [GxCmpOrInt.l0, show idx [a, b, c, d] ((3 : Nat) : Int) = some d from rfl, Option.bind_some, letK, appK, iteK_if]
        by_cases hd : (d != 0) = true
        · rw [if_pos hd]
        · rw [if_neg hd]
          have : d = 0 := by simpa using hd
          rw [this]; rfl
theorem compare_eq {s : List Int} (hs : okS s = true) (hl : s.length ≤ 5) {r b : Ban} (hr : okB s r = true) (hb : okB s b = true) : ∃ c, GiCompareBans.P r b = some c ∧ (0 ≤ c ↔ code b ≤ code r) ∧ (c < 0 ↔ code r < code b) ∧ (c = 0 ↔ code r = code b) := by
  have h1 := okB_in hs hl hr
  have h2 := okB_in hs hl hb
  obtain ⟨a, x, c, y⟩ := r
  obtain ⟨a', x', c', y'⟩ := b
  dsimp only at h1 h2
  simp only [GiCompareBans.P, unBan, cmp_eq, Option.bind_some, letK, or_eq]
  refine ⟨_, rfl, ?_⟩
  unfold cmpI code
  dsimp only
  by_cases p1 : a < a'
  · simp [p1]; omega
  · by_cases p2 : a' < a
    · simp [p1, p2]; omega
    · obtain rfl : a = a' := by omega
      by_cases p3 : x < x'
      · simp [p3]; omega
      · by_cases p4 : x' < x
        · simp [p3, p4]; omega
        · obtain rfl : x = x' := by omega
          by_cases p5 : c < c'
          · simp [p5]; omega
          · by_cases p6 : c' < c
            · simp [p5, p6]; omega
            · obtain rfl : c = c' := by omega
              by_cases p7 : y < y'
              · simp [p7]; omega
              · by_cases p8 : y' < y
                · simp [p7, p8]; omega
                · simp [p7, p8]; omega
end Go.Proofs.Ytekacbjnpeglhaa.Q6Ban

/- Chapter 6: tables of kinds: the plain functions of the program and of the reference agree, and the laws answer true. (Q6Tab) No condition but those of each theorem. -/
namespace Go.Proofs.Ytekacbjnpeglhaa.Q6Tab
set_option linter.unusedVariables false
set_option linter.unusedSimpArgs false
open Go.RowKit
open Go.Proofs.Ytekacbjnpeglhaa.GoP Go.Proofs.Ytekacbjnpeglhaa.PlainStamp Go.Proofs.Ytekacbjnpeglhaa.QBase Go.Proofs.Ytekacbjnpeglhaa.Q6Ban Go.Proofs.Ytekacbjnpeglhaa.Q6Hist Go.Proofs.Ytekacbjnpeglhaa.QLoop Go.Proofs.Ytekacbjnpeglhaa.QAll Go.Proofs.Ytekacbjnpeglhaa.PBan

def upB (s : List Int) (l : List Ban) (k : Nat) : Bool := upAt (okB s) code l k
def okT (s : List Int) (l : List Ban) : Bool := inB s.length 1 5 && decide (l.length ≤ 20) && okS s && allN l.length (upB s l)
theorem okT_of {s : List Int} {l : List Ban} (h : okT s l = true) : 1 ≤ s.length ∧ s.length ≤ 5 ∧ l.length ≤ 20 ∧ okS s = true ∧ ∀ b ∈ l, okB s b = true := by
  unfold okT at h
  simp only [Bool.and_eq_true, decide_eq_true_eq] at h
  have h1 := inB_of h.1.1.1
  refine ⟨by omega, by omega, h.1.1.2, h.1.2, fun b hb => ?_⟩
  obtain ⟨k, hk⟩ := List.getElem?_of_mem hb
  have := allN_iff.1 h.2 k (List.getElem?_eq_some_iff.1 hk).1
  unfold upB upAt at this
  rw [hk] at this
  simp only [Bool.and_eq_true] at this
  exact this.1
theorem hist_ok {s : List Int} {l : List Ban} {k : Nat} (hu : ∀ i, i < k → upB s l i = true) (hk : 0 < k) {r : Ban} (hr : l[k - 1]? = some r) : okB s r = true := by
  have := hu (k - 1) (by omega)
  unfold upB upAt at this
  rw [hr] at this
  simp only [Bool.and_eq_true] at this
  exact this.1
theorem isTable_eq (s : List Int) (l : List Ban) (hs : s.length ≤ 9223372036854775807) (hl : l.length ≤ 9223372036854775807) : GiIsKindTable.P s l = some (okT s l) := by
  simp only [GiIsKindTable.P, within_eq, Option.bind_some, letK, joinK, appK, iteK_if, okT]
  cases h1 : inB s.length 1 5 with
  | false => simp
  | true =>
    have hs5 := inB_of h1
    by_cases h2 : l.length ≤ 20
    · simp only [Bool.not_true, Bool.false_eq_true, if_false, show ¬ (20 < (l.length : Int)) by omega, decide_false, h2, decide_true, Bool.true_and]
      rw [all_cnt (p := fun i => match s[i]? with | some z => inB z 1 5 | none => true) (no := false)]
      · show (if okS s = true then _ else _) = _
        cases h3 : okS s with
        | false => simp
        | true =>
          simp only [if_true, Bool.true_and, GiIsKindTable.e0]
          rw [all_cntH (p := upB s l) (no := false)]
          · cases allN l.length (upB s l) <;> simp [GiIsKindTable.e1]
          · intro k nx hk hu
            obtain ⟨b, hb, hi⟩ := at_lt (l := l) (k := k) hk
            simp only [GiIsKindTable.l1, hi, Option.bind_some, unBan, isBan_eq s h3 (by omega), letK, joinK, appK, iteK_if]
            cases hok : okB s b with
            | false => exact ⟨fun _ => by simp, fun h => by rw [show upB s l k = false from upAt_bad hb hok] at h; exact absurd h (by simp)⟩
            | true =>
              by_cases hk0 : k = 0
              · subst hk0
                rw [show upB s l 0 = true from upAt_first hb hok]
                exact ⟨fun h => absurd h (by simp), fun _ => by simp⟩
              · obtain ⟨r, hr, _⟩ := at_lt (l := l) (k := k - 1) (by omega)
                have hrk := hist_ok hu (by omega) hr
                obtain ⟨c, hc, c1, c2, c3⟩ := compare_eq h3 (by omega) hrk hok
                rw [show upB s l k = decide (code r < code b) from upAt_next hb hr (by omega) hok]
                have hk1 : (0 : Int) < (k : Int) := by omega
                simp only [hk1, decide_true, if_true, Bool.not_true, Bool.false_eq_true, if_false]
                rw [idx_pred (by omega) (by omega) hr]
                simp only [Option.bind_some, hc]
                by_cases hlt : code r < code b
                · simp [hlt, show ¬ 0 ≤ c by omega]
                · simp [hlt, show 0 ≤ c by omega]
      · intro k nx hk
        obtain ⟨z, hz, hi⟩ := at_lt (l := s) (k := k) hk
        simp only [GiIsKindTable.l0, hi, Option.bind_some, within_eq, letK, appK, iteK_if, hz]
        exact ⟨fun h => by simp [h], fun h => by simp [h]⟩
    · simp [h2, show (20 < (l.length : Int)) by omega]
theorem l6Good_eq (fuel : Nat) (hf : 21 ≤ fuel) (s : List Int) (l : List Ban) (hs : s.length ≤ 9223372036854775807) (hl : l.length ≤ 9223372036854775807) : GsL6Good.P fuel s l = some (okT s l) := by
  simp only [GsL6Good.P, l1In_eq, Option.bind_some, letK, joinK, appK, iteK_if, okT]
  cases h1 : inB s.length 1 5 with
  | false => simp
  | true =>
    have hs5 := inB_of h1
    by_cases h2 : l.length ≤ 20
    · simp only [Bool.not_true, Bool.false_eq_true, if_false, show ¬ (20 < (l.length : Int)) by omega, decide_false, h2, decide_true, Bool.true_and]
      rw [all_lp (n := s.length) (p := fun i => match s[i]? with | some z => inB z 1 5 | none => true) (no := false)]
      · show (if okS s = true then _ else _) = _
        cases h3 : okS s with
        | false => simp
        | true =>
          simp only [if_true, Bool.true_and, GsL6Good.e0, letK]
          rw [all_lpH (n := l.length) (p := upB s l) (no := false)]
          · cases allN l.length (upB s l) <;> simp [GsL6Good.e1, letK]
          · intro k nx hk hu
            obtain ⟨b, hb, hi⟩ := at_lt (l := l) (k := k) hk
            have hlt0 : (k : Int) < (l.length : Int) := by omega
            simp only [GsL6Good.l1, letK, hlt0, decide_true, hi, Option.bind_some, unBan, l6Ban_eq s h3 (by omega), joinK, appK, iteK_if, if_true]
            rw [next_i (by omega)]
            cases hok : okB s b with
            | false => exact ⟨fun _ => by simp, fun h => by rw [show upB s l k = false from upAt_bad hb hok] at h; exact absurd h (by simp)⟩
            | true =>
              by_cases hk0 : k = 0
              · subst hk0
                rw [show upB s l 0 = true from upAt_first hb hok]
                exact ⟨fun h => absurd h (by simp), fun _ => by simp⟩
              · obtain ⟨r, hr, _⟩ := at_lt (l := l) (k := k - 1) (by omega)
                have hrk := hist_ok hu (by omega) hr
                have e1 := l6Code_eq h3 (by omega) hrk
                have e2 := l6Code_eq h3 (by omega) hok
                rw [show upB s l k = decide (code r < code b) from upAt_next hb hr (by omega) hok]
                have hk1 : (0 : Int) < (k : Int) := by omega
                simp only [hk1, decide_true, if_true, Bool.not_true, Bool.false_eq_true, if_false]
                rw [idx_pred (by omega) (by omega) hr]
                simp only [Option.bind_some, e1, e2]
                by_cases hlt : code r < code b
                · simp [hlt, show ¬ code b ≤ code r by omega]
                · simp [hlt, show code b ≤ code r by omega]
          · intro nx
            simp [GsL6Good.l1, letK, appK, iteK_if]
          · omega
      · intro k nx hk
        obtain ⟨z, hz, hi⟩ := at_lt (l := s) (k := k) hk
        have hlt0 : (k : Int) < (s.length : Int) := by omega
        simp only [GsL6Good.l0, letK, hlt0, decide_true, hi, Option.bind_some, l1In_eq, appK, iteK_if, hz, if_true]
        rw [next_i (by omega)]
        exact ⟨fun h => by simp [h], fun h => by simp [h]⟩
      · intro nx
        simp [GsL6Good.l0, letK, appK, iteK_if]
      · omega
    · simp [h2, show (20 < (l.length : Int)) by omega]
end Go.Proofs.Ytekacbjnpeglhaa.Q6Tab

/- Chapter 6: tables of kinds: the plain functions of the program and of the reference agree, and the laws answer true. (Q6Kind) No condition but those of each theorem. -/
namespace Go.Proofs.Ytekacbjnpeglhaa.Q6Kind
set_option linter.unusedVariables false
set_option linter.unusedSimpArgs false
open Go.RowKit
open Go.Proofs.Ytekacbjnpeglhaa.GoP Go.Proofs.Ytekacbjnpeglhaa.PlainStamp Go.Proofs.Ytekacbjnpeglhaa.QBase Go.Proofs.Ytekacbjnpeglhaa.Q6Tab Go.Proofs.Ytekacbjnpeglhaa.Q6Ban Go.Proofs.Ytekacbjnpeglhaa.QLoop Go.Proofs.Ytekacbjnpeglhaa.QAll Go.Proofs.Ytekacbjnpeglhaa.PBan

def okV (s k : List Int) (i : Nat) : Bool := match s[i]?, k[i]? with | some z, some v => inB v 0 (z - 1) | _, _ => true
def okK (s k : List Int) : Bool := decide (k.length = s.length) && allN k.length (okV s k)
theorem okK_len {s k : List Int} (h : okK s k = true) : k.length = s.length := by
  unfold okK at h; simp only [Bool.and_eq_true, decide_eq_true_eq] at h; exact h.1
theorem okK_at {s k : List Int} (h : okK s k = true) {i : Nat} {z v : Int} (hz : s[i]? = some z) (hv : k[i]? = some v) : 0 ≤ v ∧ v < z := by
  unfold okK at h
  simp only [Bool.and_eq_true, decide_eq_true_eq] at h
  have := allN_iff.1 h.2 i (List.getElem?_eq_some_iff.1 hv).1
  unfold okV at this
  rw [hz, hv] at this
  have := inB_of this
  omega
theorem okK_mk {s k : List Int} (hl : k.length = s.length) (h : ∀ (i : Nat) (z v : Int), s[i]? = some z → k[i]? = some v → 0 ≤ v ∧ v < z) : okK s k = true := by
  unfold okK
  simp only [Bool.and_eq_true, decide_eq_true_eq]
  refine ⟨hl, allN_iff.2 fun i hi => ?_⟩
  obtain ⟨v, hv, _⟩ := at_lt (l := k) (k := i) hi
  obtain ⟨z, hz, _⟩ := at_lt (l := s) (k := i) (by omega)
  unfold okV
  rw [hz, hv]
  have := h i z v hz hv
  exact inB_yes (by omega) (by omega)
theorem isKind_eq (s : List Int) (l : List Ban) (k : List Int) (hs : s.length ≤ 9223372036854775807) (hl : l.length ≤ 9223372036854775807) : GiIsKind.P s l k = some (okT s l && okK s k) := by
  simp only [GiIsKind.P, isTable_eq s l hs hl, Option.bind_some, letK, joinK, appK, iteK_if]
  cases ht : okT s l with
  | false => simp
  | true =>
    obtain ⟨t1, t2, t3, t4, t5⟩ := okT_of ht
    by_cases hk : k.length = s.length
    · have e1 : ((k.length : Int) != (s.length : Int)) = false := by rw [hk]; simp
      simp only [e1, Bool.not_true, Bool.false_eq_true, if_false, Bool.true_and]
      rw [all_cnt (p := okV s k) (no := false)]
      · unfold okK; cases allN k.length (okV s k) <;> simp [hk, GiIsKind.e0]
      · intro i nx hi
        obtain ⟨v, hv, hvi⟩ := at_lt (l := k) (k := i) hi
        obtain ⟨z, hz, _⟩ := at_lt (l := s) (k := i) (by omega)
        simp only [GiIsKind.l0, hvi, Option.bind_some, hasValue_eq s t4 (by omega), letK, appK, iteK_if]
        have e2 : inB (i : Int) 0 (s.length - 1) = true := inB_yes (by omega) (by omega)
        have e3 : okV s k i = inB v 0 (z - 1) := by unfold okV; rw [hz, hv]
        have e4 : hasV s (i : Int) v = inB v 0 (z - 1) := by unfold hasV; rw [e2, Int.toNat_natCast, hz]; simp
        rw [e3, e4]
        exact ⟨fun h => by simp [h], fun h => by simp [h]⟩
    · have e1 : ((k.length : Int) != (s.length : Int)) = true := by simp; omega
      unfold okK
      simp [e1, hk]
theorem l6Kind_eq {s : List Int} {l : List Ban} (ht : okT s l = true) (k : List Int) : GsL6Kind.P s l k = some (okK s k) := by
  obtain ⟨t1, t2, t3, t4, t5⟩ := okT_of ht
  simp only [GsL6Kind.P, letK, iteK_if]
  by_cases hk : k.length = s.length
  · have e1 : ((k.length : Int) != (s.length : Int)) = false := by rw [hk]; simp
    simp only [e1, Bool.false_eq_true, if_false]
    rw [all_cnt (p := okV s k) (no := false)]
    · unfold okK; cases allN k.length (okV s k) <;> simp [hk, GsL6Kind.e0]
    · intro i nx hi
      obtain ⟨v, hv, hvi⟩ := at_lt (l := k) (k := i) hi
      obtain ⟨z, hz, hzi⟩ := at_lt (l := s) (k := i) (by omega)
      have hz2 := okS_at t4 hz
      simp only [GsL6Kind.l0, hvi, hzi, Option.bind_some, l1In_eq, letK, appK, iteK_if]
      rw [wrap_in (by omega) (by omega)]
      have e3 : okV s k i = inB v 0 (z - 1) := by unfold okV; rw [hz, hv]
      rw [e3]
      exact ⟨fun h => by simp [h], fun h => by simp [h]⟩
  · have e1 : ((k.length : Int) != (s.length : Int)) = true := by simp; omega
    unfold okK
    simp [e1, hk]
/-- does the ban forbid the kind -/
def frb (k : List Int) (b : Ban) : Bool := (k[b.a.toNat]?.getD 0 == b.x) && (k[b.b.toNat]?.getD 0 == b.y)
def free (l : List Ban) (k : List Int) : Bool := l.all fun b => !frb k b
theorem okB_nat {s : List Int} (hs : okS s = true) (hl : s.length ≤ 5) {b : Ban} (h : okB s b = true) : ∃ i j : Nat, b.a = (i : Int) ∧ b.b = (j : Int) ∧ i < j ∧ j < s.length := by
  have := okB_in hs hl h
  exact ⟨b.a.toNat, b.b.toNat, by omega, by omega, by omega, by omega⟩
theorem forbids_eq {s : List Int} (hs : okS s = true) (hl : s.length ≤ 5) {b : Ban} (h : okB s b = true) {k : List Int} (hk : k.length = s.length) : GiForbids.P b k = some (frb k b) := by
  obtain ⟨i, j, h1, h2, h3, h4⟩ := okB_nat hs hl h
  obtain ⟨a, x, c, y⟩ := b
  dsimp only at h1 h2
  subst h1; subst h2
  obtain ⟨u, hu, hui⟩ := at_lt (l := k) (k := i) (by omega)
  obtain ⟨v, hv, hvi⟩ := at_lt (l := k) (k := j) (by omega)
  simp only [GiForbids.P, unBan, hui, hvi, Option.bind_some, letK, joinK, appK, iteK_if, frb, Int.toNat_natCast, hu, hv, Option.getD_some]
  cases u == x <;> simp
theorem bans_at {s : List Int} {l : List Ban} (ht : okT s l = true) {i : Nat} {b : Ban} (hb : l[i]? = some b) : okB s b = true := (okT_of ht).2.2.2.2 b (List.mem_of_getElem? hb)
theorem free_allN (l : List Ban) (k : List Int) : free l k = allN l.length fun i => match l[i]? with | some b => !frb k b | none => true := by
  rw [Bool.eq_iff_iff, allN_iff]
  unfold free
  rw [List.all_eq_true]
  constructor
  · intro h i hi
    obtain ⟨b, hb, _⟩ := at_lt (l := l) (k := i) hi
    simp only [hb]
    exact h b (List.mem_of_getElem? hb)
  · intro h b hb
    obtain ⟨i, hi⟩ := List.getElem?_of_mem hb
    have := h i (List.getElem?_eq_some_iff.1 hi).1
    simpa only [hi] using this
theorem contains_eq {s : List Int} {l : List Ban} (ht : okT s l = true) {k : List Int} (hk : k.length = s.length) :
    GxSlicesContainsFuncLoopExampleG01062ImplBanLoopExampleG01062ImplBaniIsCompatible1.P l k = some (!free l k) := by
  obtain ⟨t1, t2, t3, t4, t5⟩ := okT_of ht
  simp only [GxSlicesContainsFuncLoopExampleG01062ImplBanLoopExampleG01062ImplBaniIsCompatible1.P, letK]
  obtain ⟨c, hc, hi⟩ : ∃ c, GxSlicesIndexFuncLoopExampleG01062ImplBanLoopExampleG01062ImplBaniIsCompatible1.P l k = some c ∧ (0 ≤ c ↔ free l k = false) := by
    simp only [GxSlicesIndexFuncLoopExampleG01062ImplBanLoopExampleG01062ImplBaniIsCompatible1.P]
    refine cnt_ex (n := l.length) (Q := fun c => 0 ≤ c ↔ free l k = false) (fun j _ => ∀ i b, i < j → l[i]? = some b → frb k b = false) ?_ ?_ l.length 0 () (by omega) (fun i b hi _ => by omega)
    · intro j _ nx hj hI hn
      obtain ⟨b, hb, hbi⟩ := at_lt (l := l) (k := j) hj
      simp only [GxSlicesIndexFuncLoopExampleG01062ImplBanLoopExampleG01062ImplBaniIsCompatible1.l0, hbi, Option.bind_some, unBan, GiIsCompatible1.P, forbids_eq t4 t2 (t5 b (List.mem_of_getElem? hb)) hk, appK, iteK_if]
      cases hf : frb k b with
      | true =>
        refine ⟨_, by rw [if_pos rfl], ⟨fun _ => ?_, fun _ => by omega⟩⟩
        rw [Bool.eq_false_iff]
        intro ha
        have := List.all_eq_true.1 ha b (List.mem_of_getElem? hb)
        rw [hf] at this; simp at this
      | false =>
        rw [if_neg (by simp)]
        refine hn () (fun i b' hi hb' => ?_)
        by_cases he : i = j
        · subst he; obtain rfl := Option.some.inj (hb.symm.trans hb'); exact hf
        · exact hI i b' (by omega) hb'
    · intro _ hI
      refine ⟨_, rfl, ⟨fun h => by omega, fun h => ?_⟩⟩
      exfalso
      rw [Bool.eq_false_iff] at h
      refine h (List.all_eq_true.2 fun b hb => ?_)
      obtain ⟨i, hi⟩ := List.getElem?_of_mem hb
      rw [hI i b (List.getElem?_eq_some_iff.1 hi).1 hi]; rfl
  rw [hc]
  simp only [Option.bind_some]
  cases hf : free l k with
  | false => rw [decide_eq_true (hi.2 hf)]; rfl
  | true => rw [decide_eq_false (fun h => by rw [hi.1 h] at hf; exact absurd hf (by simp))]; rfl
theorem l6Free_eq {s : List Int} {l : List Ban} (ht : okT s l = true) {k : List Int} (hk : k.length = s.length) (fuel : Nat) (hf : 21 ≤ fuel) : GsL6Free.P fuel s l k = some (free l k) := by
  obtain ⟨t1, t2, t3, t4, t5⟩ := okT_of ht
  simp only [GsL6Free.P]
  rw [all_lp (n := l.length) (p := fun i => match l[i]? with | some b => !frb k b | none => true) (no := false)]
  · rw [free_allN]
    cases allN l.length (fun i => match l[i]? with | some b => !frb k b | none => true) <;> simp [GsL6Free.e0, letK]
  · intro i nx hi
    obtain ⟨b, hb, hbi⟩ := at_lt (l := l) (k := i) hi
    obtain ⟨p, q, h1, h2, h3, h4⟩ := okB_nat t4 t2 (t5 b (List.mem_of_getElem? hb))
    have hlt0 : (i : Int) < (l.length : Int) := by omega
    simp only [hb]
    obtain ⟨a, x, c, y⟩ := b
    dsimp only at h1 h2
    subst h1; subst h2
    obtain ⟨u, hu, hui⟩ := at_lt (l := k) (k := p) (by omega)
    obtain ⟨v, hv, hvi⟩ := at_lt (l := k) (k := q) (by omega)
    simp only [GsL6Free.l0, letK, hlt0, decide_true, hbi, Option.bind_some, unBan, hui, hvi, joinK, appK, iteK_if, if_true, frb, Int.toNat_natCast, hu, hv, Option.getD_some]
    rw [next_i (by omega)]
    cases u == x <;> cases v == y <;> simp
  · intro nx
    simp [GsL6Free.l0, letK, appK, iteK_if]
  · omega
theorem compat_impl (s : List Int) (l : List Ban) (k : List Int) (hs : s.length ≤ 9223372036854775807) (hl : l.length ≤ 9223372036854775807) :
    GiIsCompatible.P s l k = some (okT s l && okK s k && free l k, okT s l && okK s k) := by
  simp only [GiIsCompatible.P, isKind_eq s l k hs hl, Option.bind_some, letK, iteK_if]
  cases ht : okT s l with
  | false => simp
  | true =>
    cases hk : okK s k with
    | false => simp
    | true => simp [contains_eq ht (okK_len hk)]
end Go.Proofs.Ytekacbjnpeglhaa.Q6Kind

/- loop.example/g01062/laws.markIntS as a plain function, and the contract of the program's: where the plain one has an answer, the program has it. Conditions: slices read as lists. -/
namespace Go.Proofs.Ytekacbjnpeglhaa.GlMarkIntS
set_option linter.unusedVariables false
set_option linter.unusedSimpArgs false
open Go.RowKit
open Go.Proofs.Ytekacbjnpeglhaa.Rowed Go.Proofs.Ytekacbjnpeglhaa.Turn Go.Proofs.Ytekacbjnpeglhaa.Aid Go.Proofs.Ytekacbjnpeglhaa.GoP Go.Proofs.Ytekacbjnpeglhaa.GoM

def l0  (k0 : Nat) (s : (List Int) × Int) (nx0 bk0 : (List Int) × Int → Option (Int × (List Int))) : Option (Int × (List Int)) :=
  unp2 s fun a_0l0 k_1l0 =>
  Option.bind (idx a_0l0 (k0 : Int)) fun (yt_9 : Int) =>
  letK (a_0l0.set k0 k_1l0) fun (l10_10 : (List Int)) =>
  letK (IntKind.i64.wrap (k_1l0 + 1)) fun (t_12 : Int) =>
  appK nx0 (l10_10, t_12)

def e0  (s : (List Int) × Int) : Option (Int × (List Int)) :=
  unp2 s fun a_0l0 k_1l0 =>
  some (k_1l0, a_0l0)

def P (a : (List Int)) (k_1 : Int) : Option (Int × (List Int)) :=
  cntK (l0 ) (a.length) 0 (a, k_1) (e0 )

set_option maxRecDepth 100000 in
set_option maxHeartbeats 2000000 in
theorem C (a : (List Int)) (k_1 : Int) (A0 : Option Addr) (c0 : Nat)  (b0 : Nat) (w : World) (M0 : Hid (w.ownsRow b0 3 1 (.slice A0 a.length c0) a.length (Go.Proofs.Ytekacbjnpeglhaa.HelpInt.iv a))) (N0 : Hid (a.length ≤ 9223372036854775807))  {r : Int} {l_ : (List Int)} (H : Hid (P a k_1 = some (r, l_))) :
    Calls Try.prog 27 #[.slice A0 a.length c0, .int .i64 k_1] w (fun e w' => e = .returned (.int .i64 r) ∧ w'.ownsRow b0 3 1 (.slice A0 a.length c0) a.length (Go.Proofs.Ytekacbjnpeglhaa.HelpInt.iv l_) ∧ l_.length = a.length ∧ w.grownBy w' (Value.slice A0 a.length c0).ownBlock) := by
  have HB := Lib.hid (Aid.grown_refl w (Value.slice A0 a.length c0).ownBlock)
  unfold P at H
  have N0o := N0.out
  go_enter Try.func27, Try.ntmps27
  go_wp2_with fail
  have hb_0 : a.length ≤ 9223372036854775807 := own_max M0.out
  go_wp2_with fail
  go_loopg [5, 1] (a.length) (fun m_ v5_ v1_ wr => ∃ (k0 : Nat) (a_0l0 : (List Int)) (k_1l0 : Int), k0 + m_ = a.length ∧ v5_ = .int .i64 (k0 : Int) ∧ v1_ = .int .i64 k_1l0 ∧ Hid (cntK (l0 ) m_ k0 (a_0l0, k_1l0) (e0 ) = some (r, l_)) ∧ Hid (w.grownBy wr (Value.slice A0 a.length c0).ownBlock) ∧ Hid (wr.ownsRow b0 3 1 (.slice A0 a.length c0) a.length (Go.Proofs.Ytekacbjnpeglhaa.HelpInt.iv a_0l0)) ∧ Hid (a_0l0.length = a.length))
  case atStart => exact ⟨0, _, _, by omega, rfl, rfl, H, HB, M0, Lib.hid (rfl)⟩
  case round =>
    obtain ⟨k0, a_0l0, k_1l0, hkm0, rfl, rfl, H, HBwr0, Oa_0l0, hna_0l0⟩ := hrel
    rename World => wr0
    cases gk with
    | zero =>
      obtain rfl : k0 = a.length := by omega
      have hc0 : decide (((a.length : Nat) : Int) < ((a.length : Nat) : Int)) = false := by simp
      replace H := cnt_zero H
      unfold e0 at H
      replace H := unp2_hid H
      cases ret_hid H
      go_wp2_with fail
      go_ret
      exact ⟨rfl, Oa_0l0.out, hna_0l0.out, HBwr0.out⟩
    | succ m0 =>
      have hlt0 : k0 < a.length := by omega
      have hc0 : decide ((k0 : Int) < ((a.length : Nat) : Int)) = true := by simp; omega
      replace H := cnt_succ H
      unfold l0 at H
      replace H := unp2_hid H
      replace H := idx_hid H
      obtain ⟨nt_9, yt_9, et_9, lt_9, gt_9, H⟩ := H
      obtain rfl : k0 = nt_9 := by omega
      clear et_9
      have hqt_9 := hna_0l0.out
      obtain ⟨qt_9, Qt_9⟩ := own_some Oa_0l0.out (by omega)
      subst Qt_9
      obtain ⟨ab_t_9, ao_t_9, zt_9, At_9, z_t_9, ct_9_0⟩ := Go.Proofs.Ytekacbjnpeglhaa.HelpInt.Ints.at_ (own_cells Oa_0l0.out) (k := k0) (by omega)
      obtain rfl := Option.some.inj (gt_9.out.symm.trans z_t_9)
      simp only [Option.some.injEq, Addr.mk.injEq] at At_9
      obtain ⟨rfl, rfl, _⟩ := At_9
      clear z_t_9
      simp only [Nat.zero_add] at ct_9_0
      have b0t_9 : (0 : Int) ≤ (k0 : Int) := by omega
      have b1t_9 : (k0 : Int) < ((a.length : Nat) : Int) := by omega
      have b2t_9 : ((k0 : Int)).toNat = k0 := by omega
      clear hqt_9
      replace H := let_hid H
      obtain ⟨l10_10, hl10_10, H⟩ := H
      obtain ⟨wl10_10, hwl10_10⟩ : ∃ x, (wr0).setCell ⟨qt_9, k0, none⟩ (.int .i64 k_1l0) = x := ⟨_, rfl⟩
      have z0l10_10 := Oa_0l0.out.frozenAt (k0)
      have Sl10_10 := Lib.hid (own_stores [(k0, .int .i64 k_1l0)] Oa_0l0.out)
      have nl10_10 : Hid (l10_10.length = a.length) := Lib.hid (by rw [← hl10_10, List.length_set]; exact hna_0l0.out)
      have Pl10_10 : Hid (wl10_10.ownsRow b0 3 1 (.slice (some ⟨qt_9, 0, none⟩) a.length c0) a.length (Go.Proofs.Ytekacbjnpeglhaa.HelpInt.iv l10_10)) := Lib.hid (by have e_ : ([(k0, .int .i64 k_1l0)] : List (Nat × Value)).foldl (fun xs p => xs.set p.1 p.2) (Go.Proofs.Ytekacbjnpeglhaa.HelpInt.iv a_0l0) = (Go.Proofs.Ytekacbjnpeglhaa.HelpInt.iv l10_10) := (by rw [← hl10_10]; first | done | simp [Go.Proofs.Ytekacbjnpeglhaa.HelpInt.iv, List.map_set]); rw [← hwl10_10, ← e_]; exact Sl10_10.out.1)
      have Gl10_10 : Hid (wr0.grownBy wl10_10 (Value.slice (some ⟨qt_9, 0, none⟩) a.length c0).ownBlock) := Lib.hid (by rw [← hwl10_10]; exact Sl10_10.out.2)
      have HBwl10_10 := Lib.hid (Aid.grown_tr HBwr0.out Gl10_10.out)
      have hhl10_10 := Lib.hid hl10_10
      clear hl10_10 Sl10_10
      clear Oa_0l0 Gl10_10
      replace H := let_hid H
      obtain ⟨t_12, ht_12, H⟩ := H
      replace H := app_hid H
      go_wp2_with fail
      clear z0l10_10 ct_9_0
      go_roundg m0
      case measure => omega
      case rel => exact ⟨k0 + 1, _, _, by omega, by go_num, rfl, H, HBwl10_10, Pl10_10, Lib.hid (nl10_10.out)⟩
end Go.Proofs.Ytekacbjnpeglhaa.GlMarkIntS

/- loop.example/g01062/laws.heldIntS as a plain function, and the contract of the program's: where the plain one has an answer, the program has it. Conditions: slices read as lists. -/
namespace Go.Proofs.Ytekacbjnpeglhaa.GlHeldIntS
set_option linter.unusedVariables false
set_option linter.unusedSimpArgs false
open Go.RowKit
open Go.Proofs.Ytekacbjnpeglhaa.Rowed Go.Proofs.Ytekacbjnpeglhaa.Turn Go.Proofs.Ytekacbjnpeglhaa.Aid Go.Proofs.Ytekacbjnpeglhaa.GoP Go.Proofs.Ytekacbjnpeglhaa.GoM

def l0 (a : (List Int)) (k0 : Nat) (s : Int) (nx0 bk0 : Int → Option (Int)) : Option (Int) :=
  letK s fun k_1l0 =>
  Option.bind (idx a (k0 : Int)) fun (yt_8 : Int) =>
  letK (yt_8 != k_1l0) fun (t_11 : Bool) =>
  iteK t_11
  (some (-1))
  (letK (IntKind.i64.wrap (k_1l0 + 1)) fun (t_14 : Int) =>
  appK nx0 (t_14))

def e0  (s : Int) : Option (Int) :=
  letK s fun k_1l0 =>
  some k_1l0

def P (a : (List Int)) (k_1 : Int) : Option (Int) :=
  cntK (l0 a) (a.length) 0 (k_1) (e0 )

set_option maxRecDepth 100000 in
set_option maxHeartbeats 2000000 in
theorem C (a : (List Int)) (k_1 : Int) (A0 : Option Addr) (c0 : Nat)  (w : World) (M0 : Hid (Cells w 1 A0 a.length (Go.Proofs.Ytekacbjnpeglhaa.HelpInt.iv a))) (N0 : Hid (a.length ≤ 9223372036854775807))  {r : Int} (H : Hid (P a k_1 = some r)) :
    Calls Try.prog 28 #[.slice A0 a.length c0, .int .i64 k_1] w (Gives (.int .i64 r) w) := by
  have HB := Lib.hid (Below.refl w.heap.size w)
  unfold P at H
  have N0o := N0.out
  go_enter Try.func28, Try.ntmps28
  go_wp2_with fail
  go_loopg [5, 1] (a.length) (fun m_ v5_ v1_ wr => ∃ (k0 : Nat) (k_1l0 : Int), k0 + m_ = a.length ∧ v5_ = .int .i64 (k0 : Int) ∧ v1_ = .int .i64 k_1l0 ∧ Hid (cntK (l0 a) m_ k0 (k_1l0) (e0 ) = some r) ∧ Hid (Below w.heap.size w wr))
  case atStart => exact ⟨0, _, by omega, rfl, rfl, H, HB⟩
  case round =>
    obtain ⟨k0, k_1l0, hkm0, rfl, rfl, H, HBwr0⟩ := hrel
    rename World => wr0
    cases gk with
    | zero =>
      obtain rfl : k0 = a.length := by omega
      have hc0 : decide (((a.length : Nat) : Int) < ((a.length : Nat) : Int)) = false := by simp
      replace H := cnt_zero H
      unfold e0 at H
      replace H := let_hid H
      obtain ⟨_, rfl, H⟩ := H
      obtain rfl := ret_hid H
      go_wp2_with fail
      go_ret
      exact ⟨rfl, HBwr0.out⟩
    | succ m0 =>
      have hlt0 : k0 < a.length := by omega
      have hc0 : decide ((k0 : Int) < ((a.length : Nat) : Int)) = true := by simp; omega
      replace H := cnt_succ H
      unfold l0 at H
      replace H := let_hid H
      obtain ⟨_, rfl, H⟩ := H
      replace H := idx_hid H
      obtain ⟨nt_8, yt_8, et_8, lt_8, gt_8, H⟩ := H
      obtain rfl : k0 = nt_8 := by omega
      clear et_8
      obtain ⟨ab_t_8, ao_t_8, zt_8, At_8, z_t_8, ct_8_0⟩ := Go.Proofs.Ytekacbjnpeglhaa.HelpInt.Ints.at_ M0.out lt_8
      obtain rfl := Option.some.inj (gt_8.out.symm.trans z_t_8)
      subst At_8
      have ltt_8 := cell_lt ct_8_0
      replace ct_8_0 := cell_below HBwr0.out ct_8_0
      clear z_t_8
      have b0t_8 : (0 : Int) ≤ (k0 : Int) := by omega
      have b1t_8 : (k0 : Int) < ((a.length : Nat) : Int) := by omega
      have b2t_8 : ((k0 : Int)).toNat = k0 := by omega
      replace H := let_hid H
      obtain ⟨t_11, ht_11, H⟩ := H
      cases t_11 with
      | false =>
        replace H := ite_f H
        replace H := let_hid H
        obtain ⟨t_14, ht_14, H⟩ := H
        replace H := app_hid H
        go_wp2_with fail
        go_roundg m0
        case measure => omega
        case rel => exact ⟨k0 + 1, _, by omega, by go_num, rfl, H, HBwr0⟩
      | true =>
        replace H := ite_t H
        obtain rfl := ret_hid H
        go_wp2_with fail
        go_ret
        exact ⟨rfl, HBwr0.out⟩
end Go.Proofs.Ytekacbjnpeglhaa.GlHeldIntS

/- The laws' helpers on slices of ints as plain functions: equal, marked, held. Condition: at most 2^40 numbers. -/
namespace Go.Proofs.Ytekacbjnpeglhaa.QInt
set_option linter.unusedVariables false
set_option linter.unusedSimpArgs false
open Go.RowKit
open Go.Proofs.Ytekacbjnpeglhaa.GoP Go.Proofs.Ytekacbjnpeglhaa.QBase Go.Proofs.Ytekacbjnpeglhaa.QLoop

theorem eqI (l : List Int) : GlEqIntS.P l l = some true := by
  simp only [GlEqIntS.P, letK, iteK_if]
  rw [if_neg (by simp)]
  refine cnt_is true (fun _ _ => True) ?_ (fun s _ => rfl) () trivial
  intro k s nx hk _ hn
  obtain ⟨x, hx, hi⟩ := at_lt (l := l) (k := k) hk
  simp only [GlEqIntS.l0, hi, Option.bind_some, letK, appK, iteK_if]
  rw [if_neg (by simp)]
  exact hn () trivial
/-- 1, 2, 3 .. -/
def ups (n : Nat) : List Int := (List.range n).map (fun i : Nat => (i : Int) + 1)
theorem ups_at {n k : Nat} (h : k < n) : (ups n)[k]? = some ((k : Int) + 1) := by unfold ups; simp [h]
theorem ups_len (n : Nat) : (ups n).length = n := by simp [ups]
theorem markI (l : List Int) (hl : l.length ≤ 1099511627776) : GlMarkIntS.P l 1 = some ((l.length : Int) + 1, ups l.length) := by
  simp only [GlMarkIntS.P]
  refine cnt_is _ (fun k s => s.1.length = l.length ∧ s.2 = (k : Int) + 1 ∧ ∀ i, i < k → s.1[i]? = some ((i : Int) + 1)) ?_ ?_ (l, 1) ⟨rfl, rfl, fun i hi => by omega⟩
  · rintro k ⟨a, b⟩ nx hk ⟨h1, h2, h3⟩ hn
    dsimp only at h1 h2 h3
    obtain ⟨x, hx, hi⟩ := at_lt (l := a) (k := k) (by omega)
    simp only [GlMarkIntS.l0, unp2, hi, Option.bind_some, letK, appK]
    rw [wrap_in (by omega) (by omega)]
    refine hn _ ⟨by simpa using h1, by dsimp only; omega, fun i hi2 => ?_⟩
    dsimp only
    by_cases he : i = k
    · subst he; rw [List.getElem?_set_self (by omega), h2]
    · rw [List.getElem?_set_ne (by omega)]; exact h3 i (by omega)
  · rintro ⟨a, b⟩ ⟨h1, h2, h3⟩
    dsimp only at h1 h2 h3
    have : a = ups l.length := by
      apply List.ext_getElem?
      intro i
      by_cases hi : i < l.length
      · rw [h3 i hi, ups_at hi]
      · rw [List.getElem?_eq_none (by omega), List.getElem?_eq_none (by rw [ups_len]; omega)]
    simp only [GlMarkIntS.e0, unp2]
    rw [this, h2]
theorem heldI (n : Nat) (hl : n ≤ 1099511627776) : GlHeldIntS.P (ups n) 1 = some ((n : Int) + 1) := by
  simp only [GlHeldIntS.P]
  refine cnt_is _ (fun k s => s = (k : Int) + 1) ?_ ?_ 1 rfl
  · intro k s nx hk hI hn
    rw [ups_len] at hk
    have hi : idx (ups n) (k : Int) = some ((k : Int) + 1) := by rw [idx_nat, ups_at hk]
    simp only [GlHeldIntS.l0, hi, Option.bind_some, letK, appK, iteK_if]
    rw [if_neg (by simp [hI]), wrap_in (by omega) (by omega)]
    exact hn _ (by omega)
  · intro s hI
    simp only [GlHeldIntS.e0, letK]
    rw [hI, ups_len]
/-- a loop that gathers -/
theorem gather {α β R : Type} {l : List α} {p : α → Bool} {g : α → β} {f : Nat → List β → (List β → Option R) → (List β → Option R) → Option R} {fin : List β → Option R} (hl : l.length ≤ 1099511627776)
    (step : ∀ k nx x s, l[k]? = some x → s.length ≤ 1099511627776 → f k s nx fin = nx (if p x then s ++ [g x] else s)) : cntK f l.length 0 [] fin = fin ((l.filter p).map g) := by
  have key : ∀ m k, k + m = l.length → cntK f m k (((l.take k).filter p).map g) fin = fin ((l.filter p).map g) := by
    intro m
    induction m with
    | zero => intro k hk; obtain rfl : k = l.length := by omega
              rw [List.take_of_length_le (Nat.le_refl _)]; rfl
    | succ m ih =>
      intro k hk
      obtain ⟨x, hx, _⟩ := at_lt (l := l) (k := k) (by omega)
      show f k _ _ fin = _
      have hle : (((l.take k).filter p).map g).length ≤ 1099511627776 := by
        rw [List.length_map]
        have := List.length_filter_le p (l.take k)
        rw [List.length_take] at this
        omega
      rw [step k _ x _ hx hle, ← ih (k + 1) (by omega), take_next hx, List.filter_append, List.map_append]
      cases hp : p x <;> simp [List.filter, hp]
  exact key l.length 0 (by omega)
end Go.Proofs.Ytekacbjnpeglhaa.QInt

/- Chapter 5: combs, holes, gauges: the plain functions of the program and of the reference agree, and the laws answer true. (QToI) No condition but those of each theorem. -/
namespace Go.Proofs.Ytekacbjnpeglhaa.QToI
set_option linter.unusedVariables false
set_option linter.unusedSimpArgs false
open Go.RowKit
open Go.Proofs.Ytekacbjnpeglhaa.GoP Go.Proofs.Ytekacbjnpeglhaa.PlainStamp Go.Proofs.Ytekacbjnpeglhaa.QBase Go.Proofs.Ytekacbjnpeglhaa.QLoop

theorem toI (l : List Int) (hl : l.length ≤ 1048576) : GlToIntS.P l = some l := by
  simp only [GlToIntS.P, letK]
  rw [guardK_pos (by omega)]
  refine cnt_is l (fun k s => s = l.take k ++ List.replicate (l.length - k) 0) ?_ ?_ _ (by simp)
  · intro k s nx hk hI hn
    obtain ⟨x, hx, hi⟩ := at_lt (l := l) (k := k) hk
    have hlen : s.length = l.length := by rw [hI]; simp; omega
    obtain ⟨z, hz, hj⟩ := at_lt (l := s) (k := k) (by omega)
    simp only [GlToIntS.l0, hi, hj, Option.bind_some, letK, appK]
    refine hn _ ?_
    rw [hI, take_next hx, List.set_append_right _ _ (by simp; omega)]
    have hr : l.length - k = (l.length - (k + 1)) + 1 := by omega
    rw [hr, List.replicate_succ, List.append_assoc]
    simp [show k - min k l.length = 0 by omega]
  · intro s hI
    rw [hI]; simp [GlToIntS.e0, letK]
end Go.Proofs.Ytekacbjnpeglhaa.QToI

/- The laws' helpers on Ban and on slices of it as plain functions: copied, equal, their bulk. No condition. -/
namespace Go.Proofs.Ytekacbjnpeglhaa.QHBanE
set_option linter.unusedVariables false
set_option linter.unusedSimpArgs false
open Go.RowKit
open Go.Proofs.Ytekacbjnpeglhaa.GoP Go.Proofs.Ytekacbjnpeglhaa.QBase Go.Proofs.Ytekacbjnpeglhaa.QLoop Go.Proofs.Ytekacbjnpeglhaa.PBan

theorem toOne (s : Ban) : GlToBan.P s = some s := by cases s; rfl
theorem eqOne (s : Ban) : GlEqBan.P s s = some true := by
  obtain ⟨x0, x1, x2, x3⟩ := s
  simp [GlEqBan.P, unBan, letK, joinK, appK, iteK_if]
theorem toS (l : List Ban) (hl : l.length ≤ 1048576) : GlToBanS.P l = some l := by
  simp only [GlToBanS.P, letK]
  rw [guardK_pos (by omega)]
  refine cnt_is l (fun k s => s = l.take k ++ List.replicate (l.length - k) (Ban.mk 0 0 0 0)) ?_ ?_ _ (by simp)
  · intro k s nx hk hI hn
    obtain ⟨x, hx, hi⟩ := at_lt (l := l) (k := k) hk
    have hlen : s.length = l.length := by rw [hI]; simp; omega
    obtain ⟨z, hz, hj⟩ := at_lt (l := s) (k := k) (by omega)
    simp only [GlToBanS.l0, hi, hj, toOne, Option.bind_some, unBan, letK, appK]
    refine hn _ ?_
    rw [hI, take_next hx, List.set_append_right _ _ (by simp; omega)]
    have hr : l.length - k = (l.length - (k + 1)) + 1 := by omega
    rw [hr, List.replicate_succ, List.append_assoc]
    simp [show k - min k l.length = 0 by omega]
  · intro s hI
    rw [hI]; simp [GlToBanS.e0, letK]
theorem eqS (l : List Ban) : GlEqBanS.P l l = some true := by
  simp only [GlEqBanS.P, letK, iteK_if]
  rw [if_neg (by simp)]
  refine cnt_is true (fun _ _ => True) ?_ (fun s _ => rfl) () trivial
  intro k s nx hk _ hn
  obtain ⟨x, hx, hi⟩ := at_lt (l := l) (k := k) hk
  simp only [GlEqBanS.l0, hi, Option.bind_some, unBan, eqOne, letK, appK, iteK_if]
  exact hn () trivial
theorem szS (l : List Ban) (hl : l.length ≤ 9223372036854775807) : GlSzBanS.P l 1048576 = some (if l.length ≤ 1048576 then 1048576 - (l.length : Int) else -1) := by
  simp only [GlSzBanS.P, letK, iteK_if]
  rw [wrap_in (by omega) (by omega)]
  by_cases h : l.length ≤ 1048576
  · rw [if_neg (by simp; omega), if_pos h]
  · rw [if_pos (by simp; omega), if_neg h]
end Go.Proofs.Ytekacbjnpeglhaa.QHBanE

/- Chapter 6: tables of kinds: the plain functions of the program and of the reference agree, and the laws answer true. (Q6Help) No condition but those of each theorem. -/
namespace Go.Proofs.Ytekacbjnpeglhaa.Q6Help
set_option linter.unusedVariables false
set_option linter.unusedSimpArgs false
open Go.RowKit
open Go.Proofs.Ytekacbjnpeglhaa.GoP Go.Proofs.Ytekacbjnpeglhaa.PlainStamp Go.Proofs.Ytekacbjnpeglhaa.QBase Go.Proofs.Ytekacbjnpeglhaa.QLoop Go.Proofs.Ytekacbjnpeglhaa.QAll Go.Proofs.Ytekacbjnpeglhaa.PBan Go.Proofs.Ytekacbjnpeglhaa.QInt Go.Proofs.Ytekacbjnpeglhaa.QToI Go.Proofs.Ytekacbjnpeglhaa.QHBanE

theorem szT (s : List Int) (l : List Ban) (hs : s.length ≤ 9223372036854775807) (hl : l.length ≤ 9223372036854775807) : ∃ c, GlSzKindTable.P s l 1048576 = some c ∧ (0 ≤ c → s.length ≤ 1048576 ∧ l.length ≤ 1048576) := by
  simp only [GlSzKindTable.P, GlSzIntS.P, GlSzBanS.P, letK, iteK_if]
  rw [wrap_in (x := 1048576 - (s.length : Int)) (by omega) (by omega)]
  by_cases h : (1048576 - (s.length : Int)) < 0
  · exact ⟨-1, by simp [h], by omega⟩
  · rw [if_neg (by simpa using h)]
    simp only [Option.bind_some]
    rw [if_neg (by simpa using h), wrap_in (by omega) (by omega)]
    by_cases h2 : (1048576 - (s.length : Int) - (l.length : Int)) < 0
    · exact ⟨-1, by simp [h2], by omega⟩
    · exact ⟨_, by rw [if_neg (by simpa using h2)]; simp only [Option.bind_some]; rw [if_neg (by simpa using h2)], by omega⟩
theorem toT (s : List Int) (l : List Ban) (hs : s.length ≤ 1048576) (hl : l.length ≤ 1048576) : GlToKindTable.P s l = some ⟨s, l⟩ := by
  simp only [GlToKindTable.P, toI s hs, toS l hl, Option.bind_some]
theorem eqT (s : List Int) (l : List Ban) : GlEqKindTable.P s l s l = some true := by
  simp [GlEqKindTable.P, eqI, eqS, letK, iteK_if]
end Go.Proofs.Ytekacbjnpeglhaa.Q6Help

/- Chapter 6: tables of kinds: the plain functions of the program and of the reference agree, and the laws answer true. (QL6Compat) No condition but those of each theorem. -/
namespace Go.Proofs.Ytekacbjnpeglhaa.QL6Compat
set_option linter.unusedVariables false
set_option linter.unusedSimpArgs false
open Go.RowKit
open Go.Proofs.Ytekacbjnpeglhaa.GoP Go.Proofs.Ytekacbjnpeglhaa.PlainStamp Go.Proofs.Ytekacbjnpeglhaa.QBase Go.Proofs.Ytekacbjnpeglhaa.Q6Kind Go.Proofs.Ytekacbjnpeglhaa.Q6Tab Go.Proofs.Ytekacbjnpeglhaa.Q6Help Go.Proofs.Ytekacbjnpeglhaa.QLoop Go.Proofs.Ytekacbjnpeglhaa.QToI Go.Proofs.Ytekacbjnpeglhaa.QInt Go.Proofs.Ytekacbjnpeglhaa.PBan

theorem compat_spec (fuel : Nat) (hf : 21 ≤ fuel) (s : List Int) (l : List Ban) (k : List Int) (hs : s.length ≤ 9223372036854775807) (hl : l.length ≤ 9223372036854775807) :
    GsIsCompatible.P fuel s l k = some (okT s l && okK s k && free l k, okT s l && okK s k) := by
  simp only [GsIsCompatible.P, l6Good_eq fuel hf s l hs hl, Option.bind_some, letK, joinK, appK, iteK_if]
  cases ht : okT s l with
  | false => simp
  | true =>
    simp only [l6Kind_eq ht, Option.bind_some]
    cases hk : okK s k with
    | false => simp
    | true => simp [l6Free_eq ht (okK_len hk) fuel hf]
theorem law_compat (fuel : Nat) (hf : 21 ≤ fuel) (s : List Int) (l : List Ban) (k : List Int) (hs : s.length ≤ 9223372036854775807) (hl : l.length ≤ 9223372036854775807) (hkl : k.length ≤ 9223372036854775807) : GlFnExactIsCompatible.P fuel s l k = some true := by
  simp only [GlFnExactIsCompatible.P, letK, iteK_if]
  by_cases hb0 : (1048576 : Int) < (k.length : Int)
  · rw [if_pos (by simpa using hb0)]
  · rw [if_neg (by simpa using hb0)]
    obtain ⟨c, hc, hb⟩ := szT s l hs hl
    simp only [hc, Option.bind_some]
    by_cases h : c < 0
    · simp [h]
    · obtain ⟨h1, h2⟩ := hb (by omega)
      simp [h, toT s l h1 h2, unKindTable, toI k (by omega), compat_spec fuel hf s l k hs hl, compat_impl s l k hs hl, eqT, eqI, bind2, joinK, appK, iteK_if]
end Go.Proofs.Ytekacbjnpeglhaa.QL6Compat

/- A slice of strings or of integers that lies in a record that came in: the list that it reads as. No condition. -/
namespace Go.Proofs.Ytekacbjnpeglhaa.OpenNest
set_option linter.unusedVariables false
open Go.Joins Go.ChangeShapes Go.WideShapes Go.RowKit Go.Deep Go.Proofs.Ytekacbjnpeglhaa.Rowed
theorem len1 {l : List Value} (h : l.length = 1) : ∃ a, l = [a] := List.length_eq_one_iff.1 h
theorem len2 {l : List Value} (h : l.length = 2) : ∃ a b, l = [a, b] := by
  match l, h with
  | [a, b], _ => exact ⟨a, b, rfl⟩
theorem len3 {l : List Value} (h : l.length = 3) : ∃ a b c, l = [a, b, c] := by
  match l, h with
  | [a, b, c], _ => exact ⟨a, b, c, rfl⟩
theorem len4 {l : List Value} (h : l.length = 4) : ∃ a b c d, l = [a, b, c, d] := by
  match l, h with
  | [a, b, c, d], _ => exact ⟨a, b, c, d, rfl⟩
theorem len5 {l : List Value} (h : l.length = 5) : ∃ a b c d e, l = [a, b, c, d, e] := by
  match l, h with
  | [a, b, c, d, e], _ => exact ⟨a, b, c, d, e, rfl⟩
section
variable {H : Type} {enc : TypeId × Value → H} {P : Program} {w : World}
theorem one_strs {t e : TypeId} {fuel : Nat} {u : Value} {x : DataW H × List MemPlace} (ht : P.underlying t = some (.slice e)) (he : P.underlying e = some .string) (hc : P.cellsOf e = 1)
    (h : DataW.trod enc P w 0 (fun _ => true) true fuel t [u] = some x) :
    ∃ (a : Option Addr) (len cap : Nat) (l : List ByteArray), u = .slice a len cap ∧ Cells w 1 a len (l.map Value.string) ∧ l.length = len ∧ len ≤ maxLen ∧ ∀ s ∈ l, s.size ≤ maxLen := by
  rcases open_strings ht he hc h with ⟨hcs, _⟩ | ⟨x, l, c, zs, hcs, hxb, hl, hm, hz, hdat, hcell, hwz⟩
  · obtain rfl : u = .slice none 0 0 := by simpa using hcs
    exact ⟨none, 0, 0, [], rfl, Cells.nil_ _ _ _, rfl, by unfold maxLen; omega, by intro s hs; simp at hs⟩
  · obtain rfl : u = .slice (some x) l c := by simpa using hcs
    have hz' : zs.length = c := by simpa using hz
    refine ⟨some x, l, c, zs.take l, rfl, ⟨by rw [List.length_map, List.length_take]; omega, fun _ => ⟨x, rfl, fun j u hu => ?_⟩⟩, by rw [List.length_take]; omega, by omega, fun s hs => hwz s (List.mem_of_mem_take hs)⟩
    rw [List.getElem?_map] at hu
    cases hj : (zs.take l)[j]? with
    | none => rw [hj] at hu; simp at hu
    | some y =>
      rw [hj] at hu
      obtain rfl : Value.string y = u := by simpa using hu
      have hjl := (List.getElem?_eq_some_iff.1 hj).1
      rw [List.length_take] at hjl
      rw [List.getElem?_take_of_lt (by omega)] at hj
      rw [hcell j (by omega), List.getD_eq_getElem?_getD, hj]; rfl
theorem one_ints {t e : TypeId} {fuel : Nat} {u : Value} {x : DataW H × List MemPlace} (ht : P.underlying t = some (.slice e)) (he : P.underlying e = some (.int .i64)) (hc : P.cellsOf e = 1)
    (h : DataW.trod enc P w 0 (fun _ => true) true fuel t [u] = some x) :
    ∃ (a : Option Addr) (len cap : Nat) (l : List Int), u = .slice a len cap ∧ Cells w 1 a len (l.map (Value.int .i64)) ∧ l.length = len ∧ len ≤ maxLen ∧ ∀ n ∈ l, (Lit.int .i64 n).wf = true := by
  rcases open_ints ht he hc h with ⟨hcs, _⟩ | ⟨x, l, c, zs, hcs, hxb, hl, hm, hz, hdat, hcell, hwz⟩
  · obtain rfl : u = .slice none 0 0 := by simpa using hcs
    exact ⟨none, 0, 0, [], rfl, Cells.nil_ _ _ _, rfl, by unfold maxLen; omega, by intro s hs; simp at hs⟩
  · obtain rfl : u = .slice (some x) l c := by simpa using hcs
    have hz' : zs.length = c := by simpa using hz
    refine ⟨some x, l, c, zs.take l, rfl, ⟨by rw [List.length_map, List.length_take]; omega, fun _ => ⟨x, rfl, fun j u hu => ?_⟩⟩, by rw [List.length_take]; omega, by omega, fun s hs => hwz s (List.mem_of_mem_take hs)⟩
    rw [List.getElem?_map] at hu
    cases hj : (zs.take l)[j]? with
    | none => rw [hj] at hu; simp at hu
    | some y =>
      rw [hj] at hu
      obtain rfl : Value.int .i64 y = u := by simpa using hu
      have hjl := (List.getElem?_eq_some_iff.1 hj).1
      rw [List.length_take] at hjl
      rw [List.getElem?_take_of_lt (by omega)] at hj
      rw [hcell j (by omega), List.getD_eq_getElem?_getD, hj]; rfl
end
end Go.Proofs.Ytekacbjnpeglhaa.OpenNest

