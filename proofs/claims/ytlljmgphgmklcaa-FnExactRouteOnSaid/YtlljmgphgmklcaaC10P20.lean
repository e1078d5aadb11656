/- Texts on which the proofs of several laws stand, one behind the other (20 of 21). No condition of their own. -/
import Derived.Test.YtlljmgphgmklcaaChecked
import Derived.Test.YtlljmgphgmklcaaC10P1
import Derived.Test.YtlljmgphgmklcaaC10P2
import Derived.Test.YtlljmgphgmklcaaC10P4
import Derived.Test.YtlljmgphgmklcaaC10P7
import Derived.Test.YtlljmgphgmklcaaC10P3
import Derived.Test.YtlljmgphgmklcaaC10P8
import Derived.Test.YtlljmgphgmklcaaC10P19
import Derived.WalkKit
import Derived.WalkSpells
import Derived.WalkLawsBesides
import Derived.BigQuiet
import Derived.OwnWalk
import Derived.Deep.LoopGhost
import Derived.Deep.QuietTactic
import Derived.IntWalk
import Derived.Lib.QuietBelow
import Derived.Test.YtlljmgphgmklcaaC10P5
import Derived.Test.YtlljmgphgmklcaaC10P6
import Derived.Test.YtlljmgphgmklcaaC10P9
import Derived.Test.YtlljmgphgmklcaaC10P10
import Derived.Deep.RegionHeld3
/- loop.example/g01062/impl.RouteOn as a plain function, and the contract of the program's: where the plain one has an answer, the program has it. Conditions: slices read as lists. -/
namespace Go.Proofs.Ytlljmgphgmklcaa.GiRouteOn
set_option linter.unusedVariables false
set_option linter.unusedSimpArgs false
open Go.RowKit
open Go.Proofs.Ytlljmgphgmklcaa.Rowed Go.Proofs.Ytlljmgphgmklcaa.Turn Go.Proofs.Ytlljmgphgmklcaa.Aid Go.Proofs.Ytlljmgphgmklcaa.GoP Go.Proofs.Ytlljmgphgmklcaa.GoM

def P (fuel : Nat) (mails : (List Go.Proofs.Ytlljmgphgmklcaa.PMail.Mail)) (x : Go.Proofs.Ytlljmgphgmklcaa.PCover.Cover) : Option ((List Int) × Bool) :=
  unCover x fun (x_id : Int) (x_day : Int) (x_zone : Int) (x_grams : Int) (x_paid : Int) (x_from_ : Int) (x_to_ : Int) (x_leave : Int) (x_arrive : Int) =>
  Option.bind (Go.Proofs.Ytlljmgphgmklcaa.GiIsTimetable.P mails) fun (t_4 : Bool) =>
  letK (!t_4) fun (t_5 : Bool) =>
  joinK (fun (t_10 : Bool) =>
  joinK (fun (t_18 : Bool) =>
  iteK t_18
  (some (([] : List Int), false))
  (bind2 (Go.Proofs.Ytlljmgphgmklcaa.GiBestRoute.P fuel mails x_from_ x_leave x_to_) fun (t_29a : (List Int)) (t_29b : Bool) =>
  some (t_29a, t_29b))) fun jt_18 => iteK t_10 (appK jt_18 true) (Option.bind (Go.Proofs.Ytlljmgphgmklcaa.GiEarliestEnd.P mails (Go.Proofs.Ytlljmgphgmklcaa.PCover.Cover.mk x_id x_day x_zone x_grams x_paid x_from_ x_to_ x_leave x_arrive)) fun (t_14 : Int) =>
  letK (decide (x_arrive < t_14)) fun (t_17 : Bool) =>
  appK jt_18 t_17)) fun jt_10 => iteK t_5 (appK jt_10 true) (Option.bind (Go.Proofs.Ytlljmgphgmklcaa.GiIsCover.P (Go.Proofs.Ytlljmgphgmklcaa.PCover.Cover.mk x_id x_day x_zone x_grams x_paid x_from_ x_to_ x_leave x_arrive)) fun (t_8 : Bool) =>
  letK (!t_8) fun (t_9 : Bool) =>
  appK jt_10 t_9)

set_option maxRecDepth 100000 in
set_option maxHeartbeats 2000000 in
theorem C (fuel : Nat) (mails : (List Go.Proofs.Ytlljmgphgmklcaa.PMail.Mail)) (x : Go.Proofs.Ytlljmgphgmklcaa.PCover.Cover) (A0 : Option Addr) (c0 : Nat)  (w : World) (M0 : Hid (Cells w 4 A0 mails.length (Go.Proofs.Ytlljmgphgmklcaa.PMail.flat mails))) (N0 : Hid (mails.length ≤ 9223372036854775807))  {r0 : (List Int)} {r1 : Bool} (H : Hid (P fuel mails x = some (r0, r1))) :
    Calls Try.prog 46 #[.slice A0 mails.length c0, x.val] w (fun e w' => ∃ A_r0 c_r0, e = .returned (.tuple #[.slice A_r0 r0.length c_r0, .bool r1]) ∧ w'.ownsRow w.heap.size 3 1 (.slice A_r0 r0.length c_r0) r0.length (Go.Proofs.Ytlljmgphgmklcaa.HelpInt.iv r0) ∧ Below w.heap.size w w') := by
  have HB := Lib.hid (Below.refl w.heap.size w)
  unfold P at H
  obtain ⟨x_id, x_day, x_zone, x_grams, x_paid, x_from_, x_to_, x_leave, x_arrive⟩ := x
  replace H := unCover_hid H
  unfold Go.Proofs.Ytlljmgphgmklcaa.PCover.Cover.val
  have N0o := N0.out
  go_enter Try.func46, Try.ntmps46
  obtain ⟨w_x_0, hw_x_0⟩ : ∃ x, w.alloc (.cells #[.int .i64 x_id, .int .i64 x_day, .int .i64 x_zone, .int .i64 x_grams, .int .i64 x_paid, .int .i64 x_from_, .int .i64 x_to_, .int .i64 x_leave, .int .i64 x_arrive] 25) = x := ⟨_, rfl⟩
  have bw_x_0 : Below w.heap.size w w_x_0 := by rw [← hw_x_0]; exact (Below.refl _ _).alloc (Nat.le_refl _) _
  have HBw_x_0 := Lib.hid (Below.step HB.out bw_x_0)
  clear bw_x_0
  have kx_0_0 : w_x_0.cell? ⟨w.heap.size, 0, none⟩ = some (.int .i64 x_id) := by rw [← hw_x_0]; exact box_new _ _ _ 0 _ rfl
  have kx_0_1 : w_x_0.cell? ⟨w.heap.size, 1, none⟩ = some (.int .i64 x_day) := by rw [← hw_x_0]; exact box_new _ _ _ 1 _ rfl
  have kx_0_2 : w_x_0.cell? ⟨w.heap.size, 2, none⟩ = some (.int .i64 x_zone) := by rw [← hw_x_0]; exact box_new _ _ _ 2 _ rfl
  have kx_0_3 : w_x_0.cell? ⟨w.heap.size, 3, none⟩ = some (.int .i64 x_grams) := by rw [← hw_x_0]; exact box_new _ _ _ 3 _ rfl
  have kx_0_4 : w_x_0.cell? ⟨w.heap.size, 4, none⟩ = some (.int .i64 x_paid) := by rw [← hw_x_0]; exact box_new _ _ _ 4 _ rfl
  have kx_0_5 : w_x_0.cell? ⟨w.heap.size, 5, none⟩ = some (.int .i64 x_from_) := by rw [← hw_x_0]; exact box_new _ _ _ 5 _ rfl
  have kx_0_6 : w_x_0.cell? ⟨w.heap.size, 6, none⟩ = some (.int .i64 x_to_) := by rw [← hw_x_0]; exact box_new _ _ _ 6 _ rfl
  have kx_0_7 : w_x_0.cell? ⟨w.heap.size, 7, none⟩ = some (.int .i64 x_leave) := by rw [← hw_x_0]; exact box_new _ _ _ 7 _ rfl
  have kx_0_8 : w_x_0.cell? ⟨w.heap.size, 8, none⟩ = some (.int .i64 x_arrive) := by rw [← hw_x_0]; exact box_new _ _ _ 8 _ rfl
  go_wp2_with fail
  have Hkx_0_0 := Lib.hid kx_0_0
  replace kx_0_0 := cell_regrown kx_0_0
  have Hkx_0_1 := Lib.hid kx_0_1
  replace kx_0_1 := cell_regrown kx_0_1
  have Hkx_0_2 := Lib.hid kx_0_2
  replace kx_0_2 := cell_regrown kx_0_2
  have Hkx_0_3 := Lib.hid kx_0_3
  replace kx_0_3 := cell_regrown kx_0_3
  have Hkx_0_4 := Lib.hid kx_0_4
  replace kx_0_4 := cell_regrown kx_0_4
  have Hkx_0_5 := Lib.hid kx_0_5
  replace kx_0_5 := cell_regrown kx_0_5
  have Hkx_0_6 := Lib.hid kx_0_6
  replace kx_0_6 := cell_regrown kx_0_6
  have Hkx_0_7 := Lib.hid kx_0_7
  replace kx_0_7 := cell_regrown kx_0_7
  have Hkx_0_8 := Lib.hid kx_0_8
  replace kx_0_8 := cell_regrown kx_0_8
  replace H := bind_hid H
  obtain ⟨t_4, qt_4, H⟩ := H
  have nt_4 : ∀ d os, Calls Try.prog 104 #[.slice A0 mails.length c0] (Go.Sort.grow (redrawn w_x_0 d) os) fun e w'' => e = .returned (.bool t_4) ∧ ∃ p : Regrown, w'' = Go.Sort.grow (redrawn w_x_0 p.d) p.os := fun d os => Calls.regrown_of (Go.Proofs.Ytlljmgphgmklcaa.GiIsTimetable.C (mails) A0 c0 _   (Lib.hid (Cells.below (Cells.below M0.out HBw_x_0.out) (below_regrown _ _ _))) N0 qt_4)
  cases t_4 with
  | false =>
    replace H := let_hid H
    obtain ⟨t_5, ht_5, H⟩ := H
    obtain rfl : t_5 = true := ht_5.symm
    replace H := join_hid H
    replace H := ite_t H
    replace H := app_hid H
    replace H := join_hid H
    replace H := ite_t H
    replace H := app_hid H
    refine wp_region_quiet_below (by kernel_rfl) (by kernel_rfl) ?_
    repeat (go_big_quiet_step (first | (go_at_call 104; exact nt_4 _ _)))
    refine wpQuiet_nil ?_
    intro Y1 hY1
    replace hY1 := below_class hY1
    clear nt_4
    replace kx_0_0 := Hkx_0_0.out
    clear Hkx_0_0
    replace kx_0_1 := Hkx_0_1.out
    clear Hkx_0_1
    replace kx_0_2 := Hkx_0_2.out
    clear Hkx_0_2
    replace kx_0_3 := Hkx_0_3.out
    clear Hkx_0_3
    replace kx_0_4 := Hkx_0_4.out
    clear Hkx_0_4
    replace kx_0_5 := Hkx_0_5.out
    clear Hkx_0_5
    replace kx_0_6 := Hkx_0_6.out
    clear Hkx_0_6
    replace kx_0_7 := Hkx_0_7.out
    clear Hkx_0_7
    replace kx_0_8 := Hkx_0_8.out
    clear Hkx_0_8
    have HBY1 := Lib.hid (Below.step HBw_x_0.out hY1)
    replace kx_0_0 := cell_below hY1 kx_0_0
    replace kx_0_1 := cell_below hY1 kx_0_1
    replace kx_0_2 := cell_below hY1 kx_0_2
    replace kx_0_3 := cell_below hY1 kx_0_3
    replace kx_0_4 := cell_below hY1 kx_0_4
    replace kx_0_5 := cell_below hY1 kx_0_5
    replace kx_0_6 := cell_below hY1 kx_0_6
    replace kx_0_7 := cell_below hY1 kx_0_7
    replace kx_0_8 := cell_below hY1 kx_0_8
    clear hY1
    replace H := ite_t H
    obtain ⟨w_t_19, hw_t_19⟩ : ∃ x, Y1.alloc (.cells #[] 3) = x := ⟨_, rfl⟩
    have bw_t_19 : Below Y1.heap.size Y1 w_t_19 := by rw [← hw_t_19]; exact (Below.refl _ _).alloc (Nat.le_refl _) _
    have Ot_19 : Hid (w_t_19.ownsRow w.heap.size 3 1 (.slice (some ⟨Y1.heap.size, 0, none⟩) 0 0) 0 []) := Lib.hid (by rw [← hw_t_19]; exact own_empty HBY1.out.size)
    have Dt_19_x_0 := Lib.hid (apart_box kx_0_0)
    have HBw_t_19 := Lib.hid (Below.step HBY1.out bw_t_19)
    have kx_0_0__671 := cell_below bw_t_19 kx_0_0
    have kx_0_1__672 := cell_below bw_t_19 kx_0_1
    have kx_0_2__673 := cell_below bw_t_19 kx_0_2
    have kx_0_3__674 := cell_below bw_t_19 kx_0_3
    have kx_0_4__675 := cell_below bw_t_19 kx_0_4
    have kx_0_5__676 := cell_below bw_t_19 kx_0_5
    have kx_0_6__677 := cell_below bw_t_19 kx_0_6
    have kx_0_7__678 := cell_below bw_t_19 kx_0_7
    have kx_0_8__679 := cell_below bw_t_19 kx_0_8
    clear bw_t_19
    cases ret_hid H
    go_wp2_with fail
    go_ret2
    exact ⟨(some ⟨Y1.heap.size, 0, none⟩), 0, rfl, Ot_19.out, HBw_t_19.out⟩
  | true =>
    replace H := let_hid H
    obtain ⟨t_5, ht_5, H⟩ := H
    obtain rfl : t_5 = false := ht_5.symm
    replace H := join_hid H
    replace H := ite_f H
    replace H := bind_hid H
    obtain ⟨t_8, qt_8, H⟩ := H
    have nt_8 : ∀ d os, Calls Try.prog 18 #[.agg #[.int .i64 x_id, .int .i64 x_day, .int .i64 x_zone, .int .i64 x_grams, .int .i64 x_paid, .int .i64 x_from_, .int .i64 x_to_, .int .i64 x_leave, .int .i64 x_arrive]] (Go.Sort.grow (redrawn w_x_0 d) os) fun e w'' => e = .returned (.bool t_8) ∧ ∃ p : Regrown, w'' = Go.Sort.grow (redrawn w_x_0 p.d) p.os := fun d os => Calls.regrown_of (Go.Proofs.Ytlljmgphgmklcaa.GiIsCover.C ((Go.Proofs.Ytlljmgphgmklcaa.PCover.Cover.mk x_id x_day x_zone x_grams x_paid x_from_ x_to_ x_leave x_arrive))  _    qt_8)
    cases t_8 with
    | false =>
      replace H := let_hid H
      obtain ⟨t_9, ht_9, H⟩ := H
      obtain rfl : t_9 = true := ht_9.symm
      replace H := app_hid H
      replace H := join_hid H
      replace H := ite_t H
      replace H := app_hid H
      refine wp_region_quiet_below (by kernel_rfl) (by kernel_rfl) ?_
      repeat (go_big_quiet_step (first | (go_at_call 104; exact nt_4 _ _) | (go_at_call 18; exact nt_8 _ _)))
      refine wpQuiet_nil ?_
      intro Y1 hY1
      replace hY1 := below_class hY1
      clear nt_4 nt_8
      replace kx_0_0 := Hkx_0_0.out
      clear Hkx_0_0
      replace kx_0_1 := Hkx_0_1.out
      clear Hkx_0_1
      replace kx_0_2 := Hkx_0_2.out
      clear Hkx_0_2
      replace kx_0_3 := Hkx_0_3.out
      clear Hkx_0_3
      replace kx_0_4 := Hkx_0_4.out
      clear Hkx_0_4
      replace kx_0_5 := Hkx_0_5.out
      clear Hkx_0_5
      replace kx_0_6 := Hkx_0_6.out
      clear Hkx_0_6
      replace kx_0_7 := Hkx_0_7.out
      clear Hkx_0_7
      replace kx_0_8 := Hkx_0_8.out
      clear Hkx_0_8
      have HBY1 := Lib.hid (Below.step HBw_x_0.out hY1)
      replace kx_0_0 := cell_below hY1 kx_0_0
      replace kx_0_1 := cell_below hY1 kx_0_1
      replace kx_0_2 := cell_below hY1 kx_0_2
      replace kx_0_3 := cell_below hY1 kx_0_3
      replace kx_0_4 := cell_below hY1 kx_0_4
      replace kx_0_5 := cell_below hY1 kx_0_5
      replace kx_0_6 := cell_below hY1 kx_0_6
      replace kx_0_7 := cell_below hY1 kx_0_7
      replace kx_0_8 := cell_below hY1 kx_0_8
      clear hY1
      replace H := ite_t H
      obtain ⟨w_t_19, hw_t_19⟩ : ∃ x, Y1.alloc (.cells #[] 3) = x := ⟨_, rfl⟩
      have bw_t_19 : Below Y1.heap.size Y1 w_t_19 := by rw [← hw_t_19]; exact (Below.refl _ _).alloc (Nat.le_refl _) _
      have Ot_19 : Hid (w_t_19.ownsRow w.heap.size 3 1 (.slice (some ⟨Y1.heap.size, 0, none⟩) 0 0) 0 []) := Lib.hid (by rw [← hw_t_19]; exact own_empty HBY1.out.size)
      have Dt_19_x_0 := Lib.hid (apart_box kx_0_0)
      have HBw_t_19 := Lib.hid (Below.step HBY1.out bw_t_19)
      have kx_0_0__680 := cell_below bw_t_19 kx_0_0
      have kx_0_1__681 := cell_below bw_t_19 kx_0_1
      have kx_0_2__682 := cell_below bw_t_19 kx_0_2
      have kx_0_3__683 := cell_below bw_t_19 kx_0_3
      have kx_0_4__684 := cell_below bw_t_19 kx_0_4
      have kx_0_5__685 := cell_below bw_t_19 kx_0_5
      have kx_0_6__686 := cell_below bw_t_19 kx_0_6
      have kx_0_7__687 := cell_below bw_t_19 kx_0_7
      have kx_0_8__688 := cell_below bw_t_19 kx_0_8
      clear bw_t_19
      cases ret_hid H
      go_wp2_with fail
      go_ret2
      exact ⟨(some ⟨Y1.heap.size, 0, none⟩), 0, rfl, Ot_19.out, HBw_t_19.out⟩
    | true =>
      replace H := let_hid H
      obtain ⟨t_9, ht_9, H⟩ := H
      obtain rfl : t_9 = false := ht_9.symm
      replace H := app_hid H
      replace H := join_hid H
      replace H := ite_f H
      replace H := bind_hid H
      obtain ⟨t_14, qt_14, H⟩ := H
      have nt_14 : ∀ d os, Calls Try.prog 105 #[.slice A0 mails.length c0, .agg #[.int .i64 x_id, .int .i64 x_day, .int .i64 x_zone, .int .i64 x_grams, .int .i64 x_paid, .int .i64 x_from_, .int .i64 x_to_, .int .i64 x_leave, .int .i64 x_arrive]] (Go.Sort.grow (redrawn w_x_0 d) os) fun e w'' => e = .returned (.int .i64 t_14) ∧ ∃ p : Regrown, w'' = Go.Sort.grow (redrawn w_x_0 p.d) p.os := fun d os => Calls.regrown_of (Go.Proofs.Ytlljmgphgmklcaa.GiEarliestEnd.C (mails) ((Go.Proofs.Ytlljmgphgmklcaa.PCover.Cover.mk x_id x_day x_zone x_grams x_paid x_from_ x_to_ x_leave x_arrive)) A0 c0 _   (Lib.hid (Cells.below (Cells.below M0.out HBw_x_0.out) (below_regrown _ _ _))) N0 qt_14)
      replace H := let_hid H
      obtain ⟨t_17, ht_17, H⟩ := H
      replace H := app_hid H
      refine wp_region_quiet_below (by kernel_rfl) (by kernel_rfl) ?_
      repeat (go_big_quiet_step (first | (go_at_call 104; exact nt_4 _ _) | (go_at_call 18; exact nt_8 _ _) | (go_at_call 105; exact nt_14 _ _)))
      refine wpQuiet_nil ?_
      intro Y1 hY1
      replace hY1 := below_class hY1
      clear nt_4 nt_8 nt_14
      replace kx_0_0 := Hkx_0_0.out
      clear Hkx_0_0
      replace kx_0_1 := Hkx_0_1.out
      clear Hkx_0_1
      replace kx_0_2 := Hkx_0_2.out
      clear Hkx_0_2
      replace kx_0_3 := Hkx_0_3.out
      clear Hkx_0_3
      replace kx_0_4 := Hkx_0_4.out
      clear Hkx_0_4
      replace kx_0_5 := Hkx_0_5.out
      clear Hkx_0_5
      replace kx_0_6 := Hkx_0_6.out
      clear Hkx_0_6
      replace kx_0_7 := Hkx_0_7.out
      clear Hkx_0_7
      replace kx_0_8 := Hkx_0_8.out
      clear Hkx_0_8
      have HBY1 := Lib.hid (Below.step HBw_x_0.out hY1)
      replace kx_0_0 := cell_below hY1 kx_0_0
      replace kx_0_1 := cell_below hY1 kx_0_1
      replace kx_0_2 := cell_below hY1 kx_0_2
      replace kx_0_3 := cell_below hY1 kx_0_3
      replace kx_0_4 := cell_below hY1 kx_0_4
      replace kx_0_5 := cell_below hY1 kx_0_5
      replace kx_0_6 := cell_below hY1 kx_0_6
      replace kx_0_7 := cell_below hY1 kx_0_7
      replace kx_0_8 := cell_below hY1 kx_0_8
      clear hY1
      cases t_17 with
      | false =>
        replace H := ite_f H
        replace H := bind2_hid H
        obtain ⟨t_29a, t_29b, qt_29, H⟩ := H
        go_wp2_with fail
        go_at_call 106
        refine (Go.Proofs.Ytlljmgphgmklcaa.GiBestRoute.C fuel (mails) (x_from_) (x_leave) (x_to_) A0 c0 _   (Lib.hid (Cells.below M0.out HBY1.out)) N0 qt_29).mono ?_
        rintro e_t_29 wt_29 ⟨At_29a, ct_29a, rfl, ot_29a, bt_29⟩
        have Dt_29a_x_0 := Lib.hid (apart_callbox ot_29a kx_0_0)
        have Ot_29a := Lib.hid (own_lower ot_29a HBY1.out.size)
        clear ot_29a
        have HBwt_29 := Lib.hid (Below.step HBY1.out bt_29)
        replace kx_0_0 := cell_below bt_29 kx_0_0
        replace kx_0_1 := cell_below bt_29 kx_0_1
        replace kx_0_2 := cell_below bt_29 kx_0_2
        replace kx_0_3 := cell_below bt_29 kx_0_3
        replace kx_0_4 := cell_below bt_29 kx_0_4
        replace kx_0_5 := cell_below bt_29 kx_0_5
        replace kx_0_6 := cell_below bt_29 kx_0_6
        replace kx_0_7 := cell_below bt_29 kx_0_7
        replace kx_0_8 := cell_below bt_29 kx_0_8
        clear bt_29
        cases ret_hid H
        go_wp2_with fail
        go_ret2
        exact ⟨At_29a, ct_29a, rfl, Ot_29a.out, HBwt_29.out⟩
      | true =>
        replace H := ite_t H
        obtain ⟨w_t_19, hw_t_19⟩ : ∃ x, Y1.alloc (.cells #[] 3) = x := ⟨_, rfl⟩
        have bw_t_19 : Below Y1.heap.size Y1 w_t_19 := by rw [← hw_t_19]; exact (Below.refl _ _).alloc (Nat.le_refl _) _
        have Ot_19 : Hid (w_t_19.ownsRow w.heap.size 3 1 (.slice (some ⟨Y1.heap.size, 0, none⟩) 0 0) 0 []) := Lib.hid (by rw [← hw_t_19]; exact own_empty HBY1.out.size)
        have Dt_19_x_0 := Lib.hid (apart_box kx_0_0)
        have HBw_t_19 := Lib.hid (Below.step HBY1.out bw_t_19)
        have kx_0_0__689 := cell_below bw_t_19 kx_0_0
        have kx_0_1__690 := cell_below bw_t_19 kx_0_1
        have kx_0_2__691 := cell_below bw_t_19 kx_0_2
        have kx_0_3__692 := cell_below bw_t_19 kx_0_3
        have kx_0_4__693 := cell_below bw_t_19 kx_0_4
        have kx_0_5__694 := cell_below bw_t_19 kx_0_5
        have kx_0_6__695 := cell_below bw_t_19 kx_0_6
        have kx_0_7__696 := cell_below bw_t_19 kx_0_7
        have kx_0_8__697 := cell_below bw_t_19 kx_0_8
        clear bw_t_19
        cases ret_hid H
        go_wp2_with fail
        go_ret2
        exact ⟨(some ⟨Y1.heap.size, 0, none⟩), 0, rfl, Ot_19.out, HBw_t_19.out⟩
end Go.Proofs.Ytlljmgphgmklcaa.GiRouteOn

/- loop.example/g01062/laws.FnExactRouteOn as a plain function, and the contract of the program's: where the plain one has an answer, the program has it. Conditions: slices read as lists. -/
namespace Go.Proofs.Ytlljmgphgmklcaa.GlFnExactRouteOn
set_option linter.unusedVariables false
set_option linter.unusedSimpArgs false
open Go.RowKit
open Go.Proofs.Ytlljmgphgmklcaa.Rowed Go.Proofs.Ytlljmgphgmklcaa.Turn Go.Proofs.Ytlljmgphgmklcaa.Aid Go.Proofs.Ytlljmgphgmklcaa.GoP Go.Proofs.Ytlljmgphgmklcaa.GoM

def P (fuel : Nat) (aMails : (List Go.Proofs.Ytlljmgphgmklcaa.PMail.Mail)) (aX : Go.Proofs.Ytlljmgphgmklcaa.PCover.Cover) : Option (Bool) :=
  unCover aX fun (aX_id : Int) (aX_day : Int) (aX_zone : Int) (aX_grams : Int) (aX_paid : Int) (aX_from_ : Int) (aX_to_ : Int) (aX_leave : Int) (aX_arrive : Int) =>
  Option.bind (Go.Proofs.Ytlljmgphgmklcaa.GlSzMailS.P aMails 1048576) fun (t_5 : Int) =>
  letK (decide (t_5 < 0)) fun (t_8 : Bool) =>
  iteK t_8
  (some true)
  (Option.bind (Go.Proofs.Ytlljmgphgmklcaa.GlToMailS.P aMails) fun (t_11 : (List Go.Proofs.Ytlljmgphgmklcaa.PMail.Mail)) =>
  Option.bind (Go.Proofs.Ytlljmgphgmklcaa.GlToCover.P (Go.Proofs.Ytlljmgphgmklcaa.PCover.Cover.mk aX_id aX_day aX_zone aX_grams aX_paid aX_from_ aX_to_ aX_leave aX_arrive)) fun (t_13 : Go.Proofs.Ytlljmgphgmklcaa.PCover.Cover) =>
  unCover t_13 fun (t_13_id : Int) (t_13_day : Int) (t_13_zone : Int) (t_13_grams : Int) (t_13_paid : Int) (t_13_from_ : Int) (t_13_to_ : Int) (t_13_leave : Int) (t_13_arrive : Int) =>
  bind2 (Go.Proofs.Ytlljmgphgmklcaa.GsRouteOn.P fuel t_11 (Go.Proofs.Ytlljmgphgmklcaa.PCover.Cover.mk t_13_id t_13_day t_13_zone t_13_grams t_13_paid t_13_from_ t_13_to_ t_13_leave t_13_arrive)) fun (t_14a : (List Int)) (t_14b : Bool) =>
  Option.bind (Go.Proofs.Ytlljmgphgmklcaa.GlToMailS.P aMails) fun (t_21 : (List Go.Proofs.Ytlljmgphgmklcaa.PMail.Mail)) =>
  Option.bind (Go.Proofs.Ytlljmgphgmklcaa.GlToCover.P (Go.Proofs.Ytlljmgphgmklcaa.PCover.Cover.mk aX_id aX_day aX_zone aX_grams aX_paid aX_from_ aX_to_ aX_leave aX_arrive)) fun (t_25 : Go.Proofs.Ytlljmgphgmklcaa.PCover.Cover) =>
  unCover t_25 fun (t_25_id : Int) (t_25_day : Int) (t_25_zone : Int) (t_25_grams : Int) (t_25_paid : Int) (t_25_from_ : Int) (t_25_to_ : Int) (t_25_leave : Int) (t_25_arrive : Int) =>
  bind2 (Go.Proofs.Ytlljmgphgmklcaa.GiRouteOn.P fuel t_21 (Go.Proofs.Ytlljmgphgmklcaa.PCover.Cover.mk t_25_id t_25_day t_25_zone t_25_grams t_25_paid t_25_from_ t_25_to_ t_25_leave t_25_arrive)) fun (t_26a : (List Int)) (t_26b : Bool) =>
  Option.bind (Go.Proofs.Ytlljmgphgmklcaa.GlEqIntS.P t_26a t_14a) fun (t_34 : Bool) =>
  letK (!t_34) fun (t_35 : Bool) =>
  joinK (fun (t_40 : Bool) =>
  iteK t_40
  (some false)
  (Option.bind (Go.Proofs.Ytlljmgphgmklcaa.GlToMailS.P aMails) fun (t_44 : (List Go.Proofs.Ytlljmgphgmklcaa.PMail.Mail)) =>
  Option.bind (Go.Proofs.Ytlljmgphgmklcaa.GlEqMailS.P t_21 t_44) fun (t_45 : Bool) =>
  letK (!t_45) fun (t_46 : Bool) =>
  iteK t_46
  (some false)
  (bind2 (Go.Proofs.Ytlljmgphgmklcaa.GlMarkMailS.P t_21 1) fun (t_51 : Int) (lt_51 : (List Go.Proofs.Ytlljmgphgmklcaa.PMail.Mail)) =>
  letK (decide (t_51 < 0)) fun (t_54 : Bool) =>
  joinK (fun (t_60 : Bool) =>
  joinK (fun (t_65 : Bool) =>
  iteK t_65
  (some false)
  (bind2 (Go.Proofs.Ytlljmgphgmklcaa.GlMarkIntS.P t_26a 1) fun (t_70 : Int) (lt_70 : (List Int)) =>
  Option.bind (Go.Proofs.Ytlljmgphgmklcaa.GlHeldIntS.P lt_70 1) fun (t_75 : Int) =>
  letK (decide (t_75 < 0)) fun (t_78 : Bool) =>
  iteK t_78
  (some false)
  (letK (t_75 != t_70) fun (t_82 : Bool) =>
  iteK t_82
  (some false)
  (Option.bind (Go.Proofs.Ytlljmgphgmklcaa.GlToMailS.P aMails) fun (t_85 : (List Go.Proofs.Ytlljmgphgmklcaa.PMail.Mail)) =>
  Option.bind (Go.Proofs.Ytlljmgphgmklcaa.GlToCover.P (Go.Proofs.Ytlljmgphgmklcaa.PCover.Cover.mk aX_id aX_day aX_zone aX_grams aX_paid aX_from_ aX_to_ aX_leave aX_arrive)) fun (t_87 : Go.Proofs.Ytlljmgphgmklcaa.PCover.Cover) =>
  unCover t_87 fun (t_87_id : Int) (t_87_day : Int) (t_87_zone : Int) (t_87_grams : Int) (t_87_paid : Int) (t_87_from_ : Int) (t_87_to_ : Int) (t_87_leave : Int) (t_87_arrive : Int) =>
  bind2 (Go.Proofs.Ytlljmgphgmklcaa.GiRouteOn.P fuel t_85 (Go.Proofs.Ytlljmgphgmklcaa.PCover.Cover.mk t_87_id t_87_day t_87_zone t_87_grams t_87_paid t_87_from_ t_87_to_ t_87_leave t_87_arrive)) fun (t_88a : (List Int)) (t_88b : Bool) =>
  Option.bind (Go.Proofs.Ytlljmgphgmklcaa.GlEqIntS.P t_88a t_14a) fun (t_96 : Bool) =>
  letK (!t_96) fun (t_97 : Bool) =>
  joinK (fun (t_102 : Bool) =>
  iteK t_102
  (some false)
  (Option.bind (Go.Proofs.Ytlljmgphgmklcaa.GlHeldIntS.P lt_70 1) fun (t_107 : Int) =>
  letK (decide (t_107 < 0)) fun (t_110 : Bool) =>
  iteK t_110
  (some false)
  (letK (t_107 != t_70) fun (t_114 : Bool) =>
  iteK t_114
  (some false)
  (some true)))) fun jt_102 => iteK t_97 (appK jt_102 true) (letK (!(t_88b == t_14b)) fun (t_101 : Bool) =>
  appK jt_102 t_101))))) fun jt_65 => iteK t_60 (appK jt_65 true) (letK (!(t_26b == t_14b)) fun (t_64 : Bool) =>
  appK jt_65 t_64)) fun jt_60 => iteK t_54 (appK jt_60 true) (Option.bind (Go.Proofs.Ytlljmgphgmklcaa.GlEqIntS.P t_26a t_14a) fun (t_58 : Bool) =>
  letK (!t_58) fun (t_59 : Bool) =>
  appK jt_60 t_59)))) fun jt_40 => iteK t_35 (appK jt_40 true) (letK (!(t_26b == t_14b)) fun (t_39 : Bool) =>
  appK jt_40 t_39))

set_option maxRecDepth 100000 in
set_option maxHeartbeats 2000000 in
theorem C (fuel : Nat) (aMails : (List Go.Proofs.Ytlljmgphgmklcaa.PMail.Mail)) (aX : Go.Proofs.Ytlljmgphgmklcaa.PCover.Cover) (A0 : Option Addr) (c0 : Nat)  (w : World) (M0 : Hid (Cells w 4 A0 aMails.length (Go.Proofs.Ytlljmgphgmklcaa.PMail.flat aMails))) (N0 : Hid (aMails.length ≤ 9223372036854775807))  {r : Bool} (H : Hid (P fuel aMails aX = some r)) :
    Calls Try.prog 9 #[.slice A0 aMails.length c0, aX.val] w (Gives (.bool r) w) := by
  have HB := Lib.hid (Below.refl w.heap.size w)
  unfold P at H
  obtain ⟨aX_id, aX_day, aX_zone, aX_grams, aX_paid, aX_from_, aX_to_, aX_leave, aX_arrive⟩ := aX
  replace H := unCover_hid H
  unfold Go.Proofs.Ytlljmgphgmklcaa.PCover.Cover.val
  have N0o := N0.out
  go_enter Try.func9, Try.ntmps9
  obtain ⟨w_aX_0, hw_aX_0⟩ : ∃ x, w.alloc (.cells #[.int .i64 aX_id, .int .i64 aX_day, .int .i64 aX_zone, .int .i64 aX_grams, .int .i64 aX_paid, .int .i64 aX_from_, .int .i64 aX_to_, .int .i64 aX_leave, .int .i64 aX_arrive] 23) = x := ⟨_, rfl⟩
  have bw_aX_0 : Below w.heap.size w w_aX_0 := by rw [← hw_aX_0]; exact (Below.refl _ _).alloc (Nat.le_refl _) _
  have HBw_aX_0 := Lib.hid (Below.step HB.out bw_aX_0)
  clear bw_aX_0
  have kaX_0_0 : w_aX_0.cell? ⟨w.heap.size, 0, none⟩ = some (.int .i64 aX_id) := by rw [← hw_aX_0]; exact box_new _ _ _ 0 _ rfl
  have kaX_0_1 : w_aX_0.cell? ⟨w.heap.size, 1, none⟩ = some (.int .i64 aX_day) := by rw [← hw_aX_0]; exact box_new _ _ _ 1 _ rfl
  have kaX_0_2 : w_aX_0.cell? ⟨w.heap.size, 2, none⟩ = some (.int .i64 aX_zone) := by rw [← hw_aX_0]; exact box_new _ _ _ 2 _ rfl
  have kaX_0_3 : w_aX_0.cell? ⟨w.heap.size, 3, none⟩ = some (.int .i64 aX_grams) := by rw [← hw_aX_0]; exact box_new _ _ _ 3 _ rfl
  have kaX_0_4 : w_aX_0.cell? ⟨w.heap.size, 4, none⟩ = some (.int .i64 aX_paid) := by rw [← hw_aX_0]; exact box_new _ _ _ 4 _ rfl
  have kaX_0_5 : w_aX_0.cell? ⟨w.heap.size, 5, none⟩ = some (.int .i64 aX_from_) := by rw [← hw_aX_0]; exact box_new _ _ _ 5 _ rfl
  have kaX_0_6 : w_aX_0.cell? ⟨w.heap.size, 6, none⟩ = some (.int .i64 aX_to_) := by rw [← hw_aX_0]; exact box_new _ _ _ 6 _ rfl
  have kaX_0_7 : w_aX_0.cell? ⟨w.heap.size, 7, none⟩ = some (.int .i64 aX_leave) := by rw [← hw_aX_0]; exact box_new _ _ _ 7 _ rfl
  have kaX_0_8 : w_aX_0.cell? ⟨w.heap.size, 8, none⟩ = some (.int .i64 aX_arrive) := by rw [← hw_aX_0]; exact box_new _ _ _ 8 _ rfl
  replace H := bind_hid H
  obtain ⟨t_5, qt_5, H⟩ := H
  go_wp2_with fail
  go_at_call 25
  refine (Go.Proofs.Ytlljmgphgmklcaa.GlSzMailS.C (aMails) (1048576) A0 c0 _   (Lib.hid (Cells.below M0.out HBw_aX_0.out)) N0 qt_5).mono ?_
  rintro e_t_5 wt_5 ⟨rfl, bt_5⟩
  have HBwt_5 := Lib.hid (Below.step HBw_aX_0.out bt_5)
  replace kaX_0_0 := cell_below bt_5 kaX_0_0
  replace kaX_0_1 := cell_below bt_5 kaX_0_1
  replace kaX_0_2 := cell_below bt_5 kaX_0_2
  replace kaX_0_3 := cell_below bt_5 kaX_0_3
  replace kaX_0_4 := cell_below bt_5 kaX_0_4
  replace kaX_0_5 := cell_below bt_5 kaX_0_5
  replace kaX_0_6 := cell_below bt_5 kaX_0_6
  replace kaX_0_7 := cell_below bt_5 kaX_0_7
  replace kaX_0_8 := cell_below bt_5 kaX_0_8
  clear bt_5
  replace H := let_hid H
  obtain ⟨t_8, ht_8, H⟩ := H
  cases t_8 with
  | false =>
    replace H := ite_f H
    go_wp2_with fail
    have bd5 : Below wt_5.heap.size wt_5 wt_5.drew := (Below.refl _ _).drew
    have HBwt_5.drew := Lib.hid (Below.step HBwt_5.out bd5)
    replace kaX_0_0 := cell_below bd5 kaX_0_0
    replace kaX_0_1 := cell_below bd5 kaX_0_1
    replace kaX_0_2 := cell_below bd5 kaX_0_2
    replace kaX_0_3 := cell_below bd5 kaX_0_3
    replace kaX_0_4 := cell_below bd5 kaX_0_4
    replace kaX_0_5 := cell_below bd5 kaX_0_5
    replace kaX_0_6 := cell_below bd5 kaX_0_6
    replace kaX_0_7 := cell_below bd5 kaX_0_7
    replace kaX_0_8 := cell_below bd5 kaX_0_8
    clear bd5
    replace H := bind_hid H
    obtain ⟨t_11, qt_11, H⟩ := H
    replace H := bind_hid H
    obtain ⟨t_13, qt_13, H⟩ := H
    obtain ⟨t_13_id, t_13_day, t_13_zone, t_13_grams, t_13_paid, t_13_from_, t_13_to_, t_13_leave, t_13_arrive⟩ := t_13
    replace H := unCover_hid H
    replace H := bind2_hid H
    obtain ⟨t_14a, t_14b, qt_14, H⟩ := H
    go_region_held3 (fun w' => w'.cell? ⟨w.heap.size, 0, none⟩ = some (.int .i64 aX_id) ∧ w'.cell? ⟨w.heap.size, 1, none⟩ = some (.int .i64 aX_day) ∧ w'.cell? ⟨w.heap.size, 2, none⟩ = some (.int .i64 aX_zone) ∧ w'.cell? ⟨w.heap.size, 3, none⟩ = some (.int .i64 aX_grams) ∧ w'.cell? ⟨w.heap.size, 4, none⟩ = some (.int .i64 aX_paid) ∧ w'.cell? ⟨w.heap.size, 5, none⟩ = some (.int .i64 aX_from_) ∧ w'.cell? ⟨w.heap.size, 6, none⟩ = some (.int .i64 aX_to_) ∧ w'.cell? ⟨w.heap.size, 7, none⟩ = some (.int .i64 aX_leave) ∧ w'.cell? ⟨w.heap.size, 8, none⟩ = some (.int .i64 aX_arrive)) (first | exact ⟨kaX_0_0, kaX_0_1, kaX_0_2, kaX_0_3, kaX_0_4, kaX_0_5, kaX_0_6, kaX_0_7, kaX_0_8⟩)
        (first
          | (go_at_call 28
             refine (Go.Proofs.Ytlljmgphgmklcaa.GlToMailS.C (aMails) A0 c0 _   (Lib.hid (Cells.below M0.out HBwt_5.drew.out)) N0 qt_11).mono ?_
             rintro e_t_11 wt_11 ⟨At_11, ct_11, rfl, ot_11, bt_11⟩
             have Dt_11_aX_0 := Lib.hid (apart_callbox ot_11 kaX_0_0)
             have Ot_11 := Lib.hid (own_lower ot_11 HBwt_5.drew.out.size)
             clear ot_11
             have HBwt_11 := Lib.hid (Below.step HBwt_5.drew.out bt_11)
             replace kaX_0_0 := cell_below bt_11 kaX_0_0
             replace kaX_0_1 := cell_below bt_11 kaX_0_1
             replace kaX_0_2 := cell_below bt_11 kaX_0_2
             replace kaX_0_3 := cell_below bt_11 kaX_0_3
             replace kaX_0_4 := cell_below bt_11 kaX_0_4
             replace kaX_0_5 := cell_below bt_11 kaX_0_5
             replace kaX_0_6 := cell_below bt_11 kaX_0_6
             replace kaX_0_7 := cell_below bt_11 kaX_0_7
             replace kaX_0_8 := cell_below bt_11 kaX_0_8
             clear bt_11
             clear qt_11)
          | (go_at_call 17
             refine (Go.Proofs.Ytlljmgphgmklcaa.GlToCover.C ((Go.Proofs.Ytlljmgphgmklcaa.PCover.Cover.mk aX_id aX_day aX_zone aX_grams aX_paid aX_from_ aX_to_ aX_leave aX_arrive))  _    qt_13).mono ?_
             rintro e_t_13 wt_13 ⟨rfl, bt_13⟩
             unfold Go.Proofs.Ytlljmgphgmklcaa.PCover.Cover.val
             have HBwt_13 := Lib.hid (Below.step HBwt_11.out bt_13)
             replace kaX_0_0 := cell_below bt_13 kaX_0_0
             replace kaX_0_1 := cell_below bt_13 kaX_0_1
             replace kaX_0_2 := cell_below bt_13 kaX_0_2
             replace kaX_0_3 := cell_below bt_13 kaX_0_3
             replace kaX_0_4 := cell_below bt_13 kaX_0_4
             replace kaX_0_5 := cell_below bt_13 kaX_0_5
             replace kaX_0_6 := cell_below bt_13 kaX_0_6
             replace kaX_0_7 := cell_below bt_13 kaX_0_7
             replace kaX_0_8 := cell_below bt_13 kaX_0_8
             replace Ot_11 := Lib.hid (own_below Ot_11.out bt_13)
             clear bt_13
             clear qt_13)
          | (go_at_call 45
             refine (Go.Proofs.Ytlljmgphgmklcaa.GsRouteOn.C fuel (t_11) ((Go.Proofs.Ytlljmgphgmklcaa.PCover.Cover.mk t_13_id t_13_day t_13_zone t_13_grams t_13_paid t_13_from_ t_13_to_ t_13_leave t_13_arrive)) At_11 ct_11 _   (Lib.hid (own_cells Ot_11.out)) (Lib.hid (own_max Ot_11.out)) qt_14).mono ?_
             rintro e_t_14 wt_14 ⟨At_14a, ct_14a, rfl, ot_14a, bt_14⟩
             have Dt_14a_t_11 := Lib.hid (apart_call ot_14a Ot_11.out)
             have Dt_14a_aX_0 := Lib.hid (apart_callbox ot_14a kaX_0_0)
             have Ot_14a := Lib.hid (own_lower ot_14a HBwt_13.out.size)
             clear ot_14a
             have HBwt_14 := Lib.hid (Below.step HBwt_13.out bt_14)
             replace kaX_0_0 := cell_below bt_14 kaX_0_0
             replace kaX_0_1 := cell_below bt_14 kaX_0_1
             replace kaX_0_2 := cell_below bt_14 kaX_0_2
             replace kaX_0_3 := cell_below bt_14 kaX_0_3
             replace kaX_0_4 := cell_below bt_14 kaX_0_4
             replace kaX_0_5 := cell_below bt_14 kaX_0_5
             replace kaX_0_6 := cell_below bt_14 kaX_0_6
             replace kaX_0_7 := cell_below bt_14 kaX_0_7
             replace kaX_0_8 := cell_below bt_14 kaX_0_8
             replace Ot_11 := Lib.hid (own_below Ot_11.out bt_14)
             clear bt_14
             clear qt_14))
    replace H := bind_hid H
    obtain ⟨t_21, qt_21, H⟩ := H
    go_wp2_with fail
    go_at_call 28
    refine (Go.Proofs.Ytlljmgphgmklcaa.GlToMailS.C (aMails) A0 c0 _   (Lib.hid (Cells.below M0.out HBwt_14.out)) N0 qt_21).mono ?_
    rintro e_t_21 wt_21 ⟨At_21, ct_21, rfl, ot_21, bt_21⟩
    have Dt_21_t_11 := Lib.hid (apart_call ot_21 Ot_11.out)
    have Dt_21_t_14a := Lib.hid (apart_call ot_21 Ot_14a.out)
    have Dt_21_aX_0 := Lib.hid (apart_callbox ot_21 kaX_0_0)
    have Ot_21 := Lib.hid (own_lower ot_21 HBwt_14.out.size)
    clear ot_21
    have HBwt_21 := Lib.hid (Below.step HBwt_14.out bt_21)
    replace kaX_0_0 := cell_below bt_21 kaX_0_0
    replace kaX_0_1 := cell_below bt_21 kaX_0_1
    replace kaX_0_2 := cell_below bt_21 kaX_0_2
    replace kaX_0_3 := cell_below bt_21 kaX_0_3
    replace kaX_0_4 := cell_below bt_21 kaX_0_4
    replace kaX_0_5 := cell_below bt_21 kaX_0_5
    replace kaX_0_6 := cell_below bt_21 kaX_0_6
    replace kaX_0_7 := cell_below bt_21 kaX_0_7
    replace kaX_0_8 := cell_below bt_21 kaX_0_8
    replace Ot_11 := Lib.hid (own_below Ot_11.out bt_21)
    replace Ot_14a := Lib.hid (own_below Ot_14a.out bt_21)
    clear bt_21
    replace H := bind_hid H
    obtain ⟨t_25, qt_25, H⟩ := H
    obtain ⟨t_25_id, t_25_day, t_25_zone, t_25_grams, t_25_paid, t_25_from_, t_25_to_, t_25_leave, t_25_arrive⟩ := t_25
    replace H := unCover_hid H
    go_wp2_with fail
    go_at_call 17
    refine (Go.Proofs.Ytlljmgphgmklcaa.GlToCover.C ((Go.Proofs.Ytlljmgphgmklcaa.PCover.Cover.mk aX_id aX_day aX_zone aX_grams aX_paid aX_from_ aX_to_ aX_leave aX_arrive))  _    qt_25).mono ?_
    rintro e_t_25 wt_25 ⟨rfl, bt_25⟩
    unfold Go.Proofs.Ytlljmgphgmklcaa.PCover.Cover.val
    have HBwt_25 := Lib.hid (Below.step HBwt_21.out bt_25)
    replace kaX_0_0 := cell_below bt_25 kaX_0_0
    replace kaX_0_1 := cell_below bt_25 kaX_0_1
    replace kaX_0_2 := cell_below bt_25 kaX_0_2
    replace kaX_0_3 := cell_below bt_25 kaX_0_3
    replace kaX_0_4 := cell_below bt_25 kaX_0_4
    replace kaX_0_5 := cell_below bt_25 kaX_0_5
    replace kaX_0_6 := cell_below bt_25 kaX_0_6
    replace kaX_0_7 := cell_below bt_25 kaX_0_7
    replace kaX_0_8 := cell_below bt_25 kaX_0_8
    replace Ot_11 := Lib.hid (own_below Ot_11.out bt_25)
    replace Ot_14a := Lib.hid (own_below Ot_14a.out bt_25)
    replace Ot_21 := Lib.hid (own_below Ot_21.out bt_25)
    clear bt_25
    replace H := bind2_hid H
    obtain ⟨t_26a, t_26b, qt_26, H⟩ := H
    go_wp2_with fail
    go_at_call 46
    refine (Go.Proofs.Ytlljmgphgmklcaa.GiRouteOn.C fuel (t_21) ((Go.Proofs.Ytlljmgphgmklcaa.PCover.Cover.mk t_25_id t_25_day t_25_zone t_25_grams t_25_paid t_25_from_ t_25_to_ t_25_leave t_25_arrive)) At_21 ct_21 _   (Lib.hid (own_cells Ot_21.out)) (Lib.hid (own_max Ot_21.out)) qt_26).mono ?_
    rintro e_t_26 wt_26 ⟨At_26a, ct_26a, rfl, ot_26a, bt_26⟩
    have Dt_26a_t_11 := Lib.hid (apart_call ot_26a Ot_11.out)
    have Dt_26a_t_14a := Lib.hid (apart_call ot_26a Ot_14a.out)
    have Dt_26a_t_21 := Lib.hid (apart_call ot_26a Ot_21.out)
    have Dt_26a_aX_0 := Lib.hid (apart_callbox ot_26a kaX_0_0)
    have Ot_26a := Lib.hid (own_lower ot_26a HBwt_25.out.size)
    clear ot_26a
    have HBwt_26 := Lib.hid (Below.step HBwt_25.out bt_26)
    replace kaX_0_0 := cell_below bt_26 kaX_0_0
    replace kaX_0_1 := cell_below bt_26 kaX_0_1
    replace kaX_0_2 := cell_below bt_26 kaX_0_2
    replace kaX_0_3 := cell_below bt_26 kaX_0_3
    replace kaX_0_4 := cell_below bt_26 kaX_0_4
    replace kaX_0_5 := cell_below bt_26 kaX_0_5
    replace kaX_0_6 := cell_below bt_26 kaX_0_6
    replace kaX_0_7 := cell_below bt_26 kaX_0_7
    replace kaX_0_8 := cell_below bt_26 kaX_0_8
    replace Ot_11 := Lib.hid (own_below Ot_11.out bt_26)
    replace Ot_14a := Lib.hid (own_below Ot_14a.out bt_26)
    replace Ot_21 := Lib.hid (own_below Ot_21.out bt_26)
    clear bt_26
    replace H := bind_hid H
    obtain ⟨t_34, qt_34, H⟩ := H
    go_wp2_with fail
    go_at_call 34
    refine (Go.Proofs.Ytlljmgphgmklcaa.GlEqIntS.C (t_26a) (t_14a) At_26a ct_26a At_14a ct_14a _   (Lib.hid (own_cells Ot_26a.out)) (Lib.hid (own_max Ot_26a.out)) (Lib.hid (own_cells Ot_14a.out)) (Lib.hid (own_max Ot_14a.out)) qt_34).mono ?_
    rintro e_t_34 wt_34 ⟨rfl, bt_34⟩
    have HBwt_34 := Lib.hid (Below.step HBwt_26.out bt_34)
    replace kaX_0_0 := cell_below bt_34 kaX_0_0
    replace kaX_0_1 := cell_below bt_34 kaX_0_1
    replace kaX_0_2 := cell_below bt_34 kaX_0_2
    replace kaX_0_3 := cell_below bt_34 kaX_0_3
    replace kaX_0_4 := cell_below bt_34 kaX_0_4
    replace kaX_0_5 := cell_below bt_34 kaX_0_5
    replace kaX_0_6 := cell_below bt_34 kaX_0_6
    replace kaX_0_7 := cell_below bt_34 kaX_0_7
    replace kaX_0_8 := cell_below bt_34 kaX_0_8
    replace Ot_11 := Lib.hid (own_below Ot_11.out bt_34)
    replace Ot_14a := Lib.hid (own_below Ot_14a.out bt_34)
    replace Ot_21 := Lib.hid (own_below Ot_21.out bt_34)
    replace Ot_26a := Lib.hid (own_below Ot_26a.out bt_34)
    clear bt_34
    cases t_34 with
    | false =>
      replace H := let_hid H
      obtain ⟨t_35, ht_35, H⟩ := H
      obtain rfl : t_35 = true := ht_35.symm
      replace H := join_hid H
      replace H := ite_t H
      replace H := app_hid H
      replace H := ite_t H
      obtain rfl := ret_hid H
      go_wp2_with fail
      go_ret
      exact ⟨rfl, HBwt_34.out⟩
    | true =>
      replace H := let_hid H
      obtain ⟨t_35, ht_35, H⟩ := H
      obtain rfl : t_35 = false := ht_35.symm
      replace H := join_hid H
      replace H := ite_f H
      replace H := let_hid H
      obtain ⟨t_39, ht_39, H⟩ := H
      replace H := app_hid H
      cases t_39 with
      | false =>
        replace H := ite_f H
        replace H := bind_hid H
        obtain ⟨t_44, qt_44, H⟩ := H
        go_wp2_with fail
        go_at_call 28
        refine (Go.Proofs.Ytlljmgphgmklcaa.GlToMailS.C (aMails) A0 c0 _   (Lib.hid (Cells.below M0.out HBwt_34.out)) N0 qt_44).mono ?_
        rintro e_t_44 wt_44 ⟨At_44, ct_44, rfl, ot_44, bt_44⟩
        have Dt_44_t_11 := Lib.hid (apart_call ot_44 Ot_11.out)
        have Dt_44_t_14a := Lib.hid (apart_call ot_44 Ot_14a.out)
        have Dt_44_t_21 := Lib.hid (apart_call ot_44 Ot_21.out)
        have Dt_44_t_26a := Lib.hid (apart_call ot_44 Ot_26a.out)
        have Dt_44_aX_0 := Lib.hid (apart_callbox ot_44 kaX_0_0)
        have Ot_44 := Lib.hid (own_lower ot_44 HBwt_34.out.size)
        clear ot_44
        have HBwt_44 := Lib.hid (Below.step HBwt_34.out bt_44)
        replace kaX_0_0 := cell_below bt_44 kaX_0_0
        replace kaX_0_1 := cell_below bt_44 kaX_0_1
        replace kaX_0_2 := cell_below bt_44 kaX_0_2
        replace kaX_0_3 := cell_below bt_44 kaX_0_3
        replace kaX_0_4 := cell_below bt_44 kaX_0_4
        replace kaX_0_5 := cell_below bt_44 kaX_0_5
        replace kaX_0_6 := cell_below bt_44 kaX_0_6
        replace kaX_0_7 := cell_below bt_44 kaX_0_7
        replace kaX_0_8 := cell_below bt_44 kaX_0_8
        replace Ot_11 := Lib.hid (own_below Ot_11.out bt_44)
        replace Ot_14a := Lib.hid (own_below Ot_14a.out bt_44)
        replace Ot_21 := Lib.hid (own_below Ot_21.out bt_44)
        replace Ot_26a := Lib.hid (own_below Ot_26a.out bt_44)
        clear bt_44
        replace H := bind_hid H
        obtain ⟨t_45, qt_45, H⟩ := H
        go_wp2_with fail
        go_at_call 31
        refine (Go.Proofs.Ytlljmgphgmklcaa.GlEqMailS.C (t_21) (t_44) At_21 ct_21 At_44 ct_44 _   (Lib.hid (own_cells Ot_21.out)) (Lib.hid (own_max Ot_21.out)) (Lib.hid (own_cells Ot_44.out)) (Lib.hid (own_max Ot_44.out)) qt_45).mono ?_
        rintro e_t_45 wt_45 ⟨rfl, bt_45⟩
        have HBwt_45 := Lib.hid (Below.step HBwt_44.out bt_45)
        replace kaX_0_0 := cell_below bt_45 kaX_0_0
        replace kaX_0_1 := cell_below bt_45 kaX_0_1
        replace kaX_0_2 := cell_below bt_45 kaX_0_2
        replace kaX_0_3 := cell_below bt_45 kaX_0_3
        replace kaX_0_4 := cell_below bt_45 kaX_0_4
        replace kaX_0_5 := cell_below bt_45 kaX_0_5
        replace kaX_0_6 := cell_below bt_45 kaX_0_6
        replace kaX_0_7 := cell_below bt_45 kaX_0_7
        replace kaX_0_8 := cell_below bt_45 kaX_0_8
        replace Ot_11 := Lib.hid (own_below Ot_11.out bt_45)
        replace Ot_14a := Lib.hid (own_below Ot_14a.out bt_45)
        replace Ot_21 := Lib.hid (own_below Ot_21.out bt_45)
        replace Ot_26a := Lib.hid (own_below Ot_26a.out bt_45)
        replace Ot_44 := Lib.hid (own_below Ot_44.out bt_45)
        clear bt_45
        cases t_45 with
        | false =>
          replace H := let_hid H
          obtain ⟨t_46, ht_46, H⟩ := H
          obtain rfl : t_46 = true := ht_46.symm
          replace H := ite_t H
          obtain rfl := ret_hid H
          go_wp2_with fail
          go_ret
          exact ⟨rfl, HBwt_45.out⟩
        | true =>
          replace H := let_hid H
          obtain ⟨t_46, ht_46, H⟩ := H
          obtain rfl : t_46 = false := ht_46.symm
          replace H := ite_f H
          replace H := bind2_hid H
          obtain ⟨t_51, lt_51, qt_51, H⟩ := H
          go_wp2_with fail
          go_at_call 36
          refine (Go.Proofs.Ytlljmgphgmklcaa.GlMarkMailS.C (t_21) (1) At_21 ct_21 w.heap.size _   Ot_21 (Lib.hid (own_max Ot_21.out))   qt_51).mono ?_
          rintro e_t_51 wt_51 ⟨rfl, ot_51, nt_51, gt_51⟩
          have Pt_51 := Lib.hid ot_51
          have Gt_51 := Lib.hid gt_51
          replace nt_51 := Lib.hid nt_51
          clear ot_51 gt_51
          have HBwt_51 := Lib.hid (HBwt_45.out.grown Gt_51.out HBwt_45.out.size (fun q hq => (Ot_21.out.lt q hq).1))
          replace kaX_0_0 := cell_other kaX_0_0 Gt_51.out Dt_21_aX_0.out
          replace kaX_0_1 := cell_other kaX_0_1 Gt_51.out Dt_21_aX_0.out
          replace kaX_0_2 := cell_other kaX_0_2 Gt_51.out Dt_21_aX_0.out
          replace kaX_0_3 := cell_other kaX_0_3 Gt_51.out Dt_21_aX_0.out
          replace kaX_0_4 := cell_other kaX_0_4 Gt_51.out Dt_21_aX_0.out
          replace kaX_0_5 := cell_other kaX_0_5 Gt_51.out Dt_21_aX_0.out
          replace kaX_0_6 := cell_other kaX_0_6 Gt_51.out Dt_21_aX_0.out
          replace kaX_0_7 := cell_other kaX_0_7 Gt_51.out Dt_21_aX_0.out
          replace kaX_0_8 := cell_other kaX_0_8 Gt_51.out Dt_21_aX_0.out
          replace Ot_11 := Lib.hid (own_other Ot_11.out Gt_51.out Dt_21_t_11.out)
          replace Ot_14a := Lib.hid (own_other Ot_14a.out Gt_51.out Dt_21_t_14a.out)
          replace Ot_26a := Lib.hid (own_other Ot_26a.out Gt_51.out (Apart.symm Dt_26a_t_21.out))
          replace Ot_44 := Lib.hid (own_other Ot_44.out Gt_51.out (Apart.symm Dt_44_t_21.out))
          clear Ot_21 Gt_51
          replace H := let_hid H
          obtain ⟨t_54, ht_54, H⟩ := H
          replace H := join_hid H
          cases t_54 with
          | false =>
            replace H := ite_f H
            replace H := bind_hid H
            obtain ⟨t_58, qt_58, H⟩ := H
            go_wp2_with fail
            go_at_call 34
            refine (Go.Proofs.Ytlljmgphgmklcaa.GlEqIntS.C (t_26a) (t_14a) At_26a ct_26a At_14a ct_14a _   (Lib.hid (own_cells Ot_26a.out)) (Lib.hid (own_max Ot_26a.out)) (Lib.hid (own_cells Ot_14a.out)) (Lib.hid (own_max Ot_14a.out)) qt_58).mono ?_
            rintro e_t_58 wt_58 ⟨rfl, bt_58⟩
            have HBwt_58 := Lib.hid (Below.step HBwt_51.out bt_58)
            replace kaX_0_0 := cell_below bt_58 kaX_0_0
            replace kaX_0_1 := cell_below bt_58 kaX_0_1
            replace kaX_0_2 := cell_below bt_58 kaX_0_2
            replace kaX_0_3 := cell_below bt_58 kaX_0_3
            replace kaX_0_4 := cell_below bt_58 kaX_0_4
            replace kaX_0_5 := cell_below bt_58 kaX_0_5
            replace kaX_0_6 := cell_below bt_58 kaX_0_6
            replace kaX_0_7 := cell_below bt_58 kaX_0_7
            replace kaX_0_8 := cell_below bt_58 kaX_0_8
            replace Ot_11 := Lib.hid (own_below Ot_11.out bt_58)
            replace Ot_14a := Lib.hid (own_below Ot_14a.out bt_58)
            replace Pt_51 := Lib.hid (own_below Pt_51.out bt_58)
            replace Ot_26a := Lib.hid (own_below Ot_26a.out bt_58)
            replace Ot_44 := Lib.hid (own_below Ot_44.out bt_58)
            clear bt_58
            cases t_58 with
            | false =>
              replace H := let_hid H
              obtain ⟨t_59, ht_59, H⟩ := H
              obtain rfl : t_59 = true := ht_59.symm
              replace H := app_hid H
              replace H := join_hid H
              replace H := ite_t H
              replace H := app_hid H
              replace H := ite_t H
              obtain rfl := ret_hid H
              go_wp2_with fail
              go_ret
              exact ⟨rfl, HBwt_58.out⟩
            | true =>
              replace H := let_hid H
              obtain ⟨t_59, ht_59, H⟩ := H
              obtain rfl : t_59 = false := ht_59.symm
              replace H := app_hid H
              replace H := join_hid H
              replace H := ite_f H
              replace H := let_hid H
              obtain ⟨t_64, ht_64, H⟩ := H
              obtain rfl := ht_39.symm.trans ht_64
              replace H := app_hid H
              replace H := ite_f H
              replace H := bind2_hid H
              obtain ⟨t_70, lt_70, qt_70, H⟩ := H
              go_wp2_with fail
              go_at_call 38
              refine (Go.Proofs.Ytlljmgphgmklcaa.GlMarkIntS.C (t_26a) (1) At_26a ct_26a w.heap.size _   Ot_26a (Lib.hid (own_max Ot_26a.out))   qt_70).mono ?_
              rintro e_t_70 wt_70 ⟨rfl, ot_70, nt_70, gt_70⟩
              have Pt_70 := Lib.hid ot_70
              have Gt_70 := Lib.hid gt_70
              replace nt_70 := Lib.hid nt_70
              clear ot_70 gt_70
              have HBwt_70 := Lib.hid (HBwt_58.out.grown Gt_70.out HBwt_58.out.size (fun q hq => (Ot_26a.out.lt q hq).1))
              replace kaX_0_0 := cell_other kaX_0_0 Gt_70.out Dt_26a_aX_0.out
              replace kaX_0_1 := cell_other kaX_0_1 Gt_70.out Dt_26a_aX_0.out
              replace kaX_0_2 := cell_other kaX_0_2 Gt_70.out Dt_26a_aX_0.out
              replace kaX_0_3 := cell_other kaX_0_3 Gt_70.out Dt_26a_aX_0.out
              replace kaX_0_4 := cell_other kaX_0_4 Gt_70.out Dt_26a_aX_0.out
              replace kaX_0_5 := cell_other kaX_0_5 Gt_70.out Dt_26a_aX_0.out
              replace kaX_0_6 := cell_other kaX_0_6 Gt_70.out Dt_26a_aX_0.out
              replace kaX_0_7 := cell_other kaX_0_7 Gt_70.out Dt_26a_aX_0.out
              replace kaX_0_8 := cell_other kaX_0_8 Gt_70.out Dt_26a_aX_0.out
              replace Ot_11 := Lib.hid (own_other Ot_11.out Gt_70.out Dt_26a_t_11.out)
              replace Ot_14a := Lib.hid (own_other Ot_14a.out Gt_70.out Dt_26a_t_14a.out)
              replace Pt_51 := Lib.hid (own_other Pt_51.out Gt_70.out Dt_26a_t_21.out)
              replace Ot_44 := Lib.hid (own_other Ot_44.out Gt_70.out (Apart.symm Dt_44_t_26a.out))
              clear Ot_26a Gt_70
              replace H := bind_hid H
              obtain ⟨t_75, qt_75, H⟩ := H
              go_wp2_with fail
              have hc_ := nt_70.out
              have hv_ : (Value.slice At_26a t_26a.length ct_26a : Value) = Value.slice At_26a lt_70.length ct_26a := by rw [hc_]
              try rw [hv_]
              replace Pt_70 := Lib.hid (own_len hc_ Pt_70.out)
              clear hc_ hv_
              go_wp2_with fail
              go_at_call 39
              refine (Go.Proofs.Ytlljmgphgmklcaa.GlHeldIntS.C (lt_70) (1) At_26a ct_26a _   (Lib.hid (own_cells Pt_70.out)) (Lib.hid (own_max Pt_70.out)) qt_75).mono ?_
              rintro e_t_75 wt_75 ⟨rfl, bt_75⟩
              have HBwt_75 := Lib.hid (Below.step HBwt_70.out bt_75)
              replace kaX_0_0 := cell_below bt_75 kaX_0_0
              replace kaX_0_1 := cell_below bt_75 kaX_0_1
              replace kaX_0_2 := cell_below bt_75 kaX_0_2
              replace kaX_0_3 := cell_below bt_75 kaX_0_3
              replace kaX_0_4 := cell_below bt_75 kaX_0_4
              replace kaX_0_5 := cell_below bt_75 kaX_0_5
              replace kaX_0_6 := cell_below bt_75 kaX_0_6
              replace kaX_0_7 := cell_below bt_75 kaX_0_7
              replace kaX_0_8 := cell_below bt_75 kaX_0_8
              replace Ot_11 := Lib.hid (own_below Ot_11.out bt_75)
              replace Ot_14a := Lib.hid (own_below Ot_14a.out bt_75)
              replace Pt_51 := Lib.hid (own_below Pt_51.out bt_75)
              replace Pt_70 := Lib.hid (own_below Pt_70.out bt_75)
              replace Ot_44 := Lib.hid (own_below Ot_44.out bt_75)
              clear bt_75
              replace H := let_hid H
              obtain ⟨t_78, ht_78, H⟩ := H
              cases t_78 with
              | false =>
                replace H := ite_f H
                replace H := let_hid H
                obtain ⟨t_82, ht_82, H⟩ := H
                cases t_82 with
                | false =>
                  replace H := ite_f H
                  go_wp2_with fail
                  have hc_ := nt_51.out
                  have hv_ : (Value.slice At_21 t_21.length ct_21 : Value) = Value.slice At_21 lt_51.length ct_21 := by rw [hc_]
                  try rw [hv_]
                  replace Pt_51 := Lib.hid (own_len hc_ Pt_51.out)
                  clear hc_ hv_
                  go_wp2_with fail
                  have bd24 : Below wt_75.heap.size wt_75 wt_75.drew := (Below.refl _ _).drew
                  have HBwt_75.drew := Lib.hid (Below.step HBwt_75.out bd24)
                  replace kaX_0_0 := cell_below bd24 kaX_0_0
                  replace kaX_0_1 := cell_below bd24 kaX_0_1
                  replace kaX_0_2 := cell_below bd24 kaX_0_2
                  replace kaX_0_3 := cell_below bd24 kaX_0_3
                  replace kaX_0_4 := cell_below bd24 kaX_0_4
                  replace kaX_0_5 := cell_below bd24 kaX_0_5
                  replace kaX_0_6 := cell_below bd24 kaX_0_6
                  replace kaX_0_7 := cell_below bd24 kaX_0_7
                  replace kaX_0_8 := cell_below bd24 kaX_0_8
                  replace Ot_11 := Lib.hid (own_below Ot_11.out bd24)
                  replace Ot_14a := Lib.hid (own_below Ot_14a.out bd24)
                  replace Pt_51 := Lib.hid (own_below Pt_51.out bd24)
                  replace Pt_70 := Lib.hid (own_below Pt_70.out bd24)
                  replace Ot_44 := Lib.hid (own_below Ot_44.out bd24)
                  clear bd24
                  replace H := bind_hid H
                  obtain ⟨t_85, qt_85, H⟩ := H
                  replace H := bind_hid H
                  obtain ⟨t_87, qt_87, H⟩ := H
                  obtain ⟨t_87_id, t_87_day, t_87_zone, t_87_grams, t_87_paid, t_87_from_, t_87_to_, t_87_leave, t_87_arrive⟩ := t_87
                  replace H := unCover_hid H
                  replace H := bind2_hid H
                  obtain ⟨t_88a, t_88b, qt_88, H⟩ := H
                  go_region_held3 (fun w' => w'.cell? ⟨w.heap.size, 0, none⟩ = some (.int .i64 aX_id) ∧ w'.cell? ⟨w.heap.size, 1, none⟩ = some (.int .i64 aX_day) ∧ w'.cell? ⟨w.heap.size, 2, none⟩ = some (.int .i64 aX_zone) ∧ w'.cell? ⟨w.heap.size, 3, none⟩ = some (.int .i64 aX_grams) ∧ w'.cell? ⟨w.heap.size, 4, none⟩ = some (.int .i64 aX_paid) ∧ w'.cell? ⟨w.heap.size, 5, none⟩ = some (.int .i64 aX_from_) ∧ w'.cell? ⟨w.heap.size, 6, none⟩ = some (.int .i64 aX_to_) ∧ w'.cell? ⟨w.heap.size, 7, none⟩ = some (.int .i64 aX_leave) ∧ w'.cell? ⟨w.heap.size, 8, none⟩ = some (.int .i64 aX_arrive)) (first | exact ⟨kaX_0_0, kaX_0_1, kaX_0_2, kaX_0_3, kaX_0_4, kaX_0_5, kaX_0_6, kaX_0_7, kaX_0_8⟩)
                      (first
                        | (go_at_call 28
                           refine (Go.Proofs.Ytlljmgphgmklcaa.GlToMailS.C (aMails) A0 c0 _   (Lib.hid (Cells.below M0.out HBwt_75.drew.out)) N0 qt_85).mono ?_
                           rintro e_t_85 wt_85 ⟨At_85, ct_85, rfl, ot_85, bt_85⟩
                           have Dt_85_t_11 := Lib.hid (apart_call ot_85 Ot_11.out)
                           have Dt_85_t_14a := Lib.hid (apart_call ot_85 Ot_14a.out)
                           have Dt_85_t_21 := Lib.hid (apart_call ot_85 Pt_51.out)
                           have Dt_85_t_26a := Lib.hid (apart_call ot_85 Pt_70.out)
                           have Dt_85_t_44 := Lib.hid (apart_call ot_85 Ot_44.out)
                           have Dt_85_aX_0 := Lib.hid (apart_callbox ot_85 kaX_0_0)
                           have Ot_85 := Lib.hid (own_lower ot_85 HBwt_75.drew.out.size)
                           clear ot_85
                           have HBwt_85 := Lib.hid (Below.step HBwt_75.drew.out bt_85)
                           replace kaX_0_0 := cell_below bt_85 kaX_0_0
                           replace kaX_0_1 := cell_below bt_85 kaX_0_1
                           replace kaX_0_2 := cell_below bt_85 kaX_0_2
                           replace kaX_0_3 := cell_below bt_85 kaX_0_3
                           replace kaX_0_4 := cell_below bt_85 kaX_0_4
                           replace kaX_0_5 := cell_below bt_85 kaX_0_5
                           replace kaX_0_6 := cell_below bt_85 kaX_0_6
                           replace kaX_0_7 := cell_below bt_85 kaX_0_7
                           replace kaX_0_8 := cell_below bt_85 kaX_0_8
                           replace Ot_11 := Lib.hid (own_below Ot_11.out bt_85)
                           replace Ot_14a := Lib.hid (own_below Ot_14a.out bt_85)
                           replace Pt_51 := Lib.hid (own_below Pt_51.out bt_85)
                           replace Pt_70 := Lib.hid (own_below Pt_70.out bt_85)
                           replace Ot_44 := Lib.hid (own_below Ot_44.out bt_85)
                           clear bt_85
                           clear qt_85)
                        | (go_at_call 17
                           refine (Go.Proofs.Ytlljmgphgmklcaa.GlToCover.C ((Go.Proofs.Ytlljmgphgmklcaa.PCover.Cover.mk aX_id aX_day aX_zone aX_grams aX_paid aX_from_ aX_to_ aX_leave aX_arrive))  _    qt_87).mono ?_
                           rintro e_t_87 wt_87 ⟨rfl, bt_87⟩
                           unfold Go.Proofs.Ytlljmgphgmklcaa.PCover.Cover.val
                           have HBwt_87 := Lib.hid (Below.step HBwt_85.out bt_87)
                           replace kaX_0_0 := cell_below bt_87 kaX_0_0
                           replace kaX_0_1 := cell_below bt_87 kaX_0_1
                           replace kaX_0_2 := cell_below bt_87 kaX_0_2
                           replace kaX_0_3 := cell_below bt_87 kaX_0_3
                           replace kaX_0_4 := cell_below bt_87 kaX_0_4
                           replace kaX_0_5 := cell_below bt_87 kaX_0_5
                           replace kaX_0_6 := cell_below bt_87 kaX_0_6
                           replace kaX_0_7 := cell_below bt_87 kaX_0_7
                           replace kaX_0_8 := cell_below bt_87 kaX_0_8
                           replace Ot_11 := Lib.hid (own_below Ot_11.out bt_87)
                           replace Ot_14a := Lib.hid (own_below Ot_14a.out bt_87)
                           replace Pt_51 := Lib.hid (own_below Pt_51.out bt_87)
                           replace Pt_70 := Lib.hid (own_below Pt_70.out bt_87)
                           replace Ot_44 := Lib.hid (own_below Ot_44.out bt_87)
                           replace Ot_85 := Lib.hid (own_below Ot_85.out bt_87)
                           clear bt_87
                           clear qt_87)
                        | (go_at_call 46
                           refine (Go.Proofs.Ytlljmgphgmklcaa.GiRouteOn.C fuel (t_85) ((Go.Proofs.Ytlljmgphgmklcaa.PCover.Cover.mk t_87_id t_87_day t_87_zone t_87_grams t_87_paid t_87_from_ t_87_to_ t_87_leave t_87_arrive)) At_85 ct_85 _   (Lib.hid (own_cells Ot_85.out)) (Lib.hid (own_max Ot_85.out)) qt_88).mono ?_
                           rintro e_t_88 wt_88 ⟨At_88a, ct_88a, rfl, ot_88a, bt_88⟩
                           have Dt_88a_t_11 := Lib.hid (apart_call ot_88a Ot_11.out)
                           have Dt_88a_t_14a := Lib.hid (apart_call ot_88a Ot_14a.out)
                           have Dt_88a_t_21 := Lib.hid (apart_call ot_88a Pt_51.out)
                           have Dt_88a_t_26a := Lib.hid (apart_call ot_88a Pt_70.out)
                           have Dt_88a_t_44 := Lib.hid (apart_call ot_88a Ot_44.out)
                           have Dt_88a_t_85 := Lib.hid (apart_call ot_88a Ot_85.out)
                           have Dt_88a_aX_0 := Lib.hid (apart_callbox ot_88a kaX_0_0)
                           have Ot_88a := Lib.hid (own_lower ot_88a HBwt_87.out.size)
                           clear ot_88a
                           have HBwt_88 := Lib.hid (Below.step HBwt_87.out bt_88)
                           replace kaX_0_0 := cell_below bt_88 kaX_0_0
                           replace kaX_0_1 := cell_below bt_88 kaX_0_1
                           replace kaX_0_2 := cell_below bt_88 kaX_0_2
                           replace kaX_0_3 := cell_below bt_88 kaX_0_3
                           replace kaX_0_4 := cell_below bt_88 kaX_0_4
                           replace kaX_0_5 := cell_below bt_88 kaX_0_5
                           replace kaX_0_6 := cell_below bt_88 kaX_0_6
                           replace kaX_0_7 := cell_below bt_88 kaX_0_7
                           replace kaX_0_8 := cell_below bt_88 kaX_0_8
                           replace Ot_11 := Lib.hid (own_below Ot_11.out bt_88)
                           replace Ot_14a := Lib.hid (own_below Ot_14a.out bt_88)
                           replace Pt_51 := Lib.hid (own_below Pt_51.out bt_88)
                           replace Pt_70 := Lib.hid (own_below Pt_70.out bt_88)
                           replace Ot_44 := Lib.hid (own_below Ot_44.out bt_88)
                           replace Ot_85 := Lib.hid (own_below Ot_85.out bt_88)
                           clear bt_88
                           clear qt_88))
                  replace H := bind_hid H
                  obtain ⟨t_96, qt_96, H⟩ := H
                  go_wp2_with fail
                  go_at_call 34
                  refine (Go.Proofs.Ytlljmgphgmklcaa.GlEqIntS.C (t_88a) (t_14a) At_88a ct_88a At_14a ct_14a _   (Lib.hid (own_cells Ot_88a.out)) (Lib.hid (own_max Ot_88a.out)) (Lib.hid (own_cells Ot_14a.out)) (Lib.hid (own_max Ot_14a.out)) qt_96).mono ?_
                  rintro e_t_96 wt_96 ⟨rfl, bt_96⟩
                  have HBwt_96 := Lib.hid (Below.step HBwt_88.out bt_96)
                  replace kaX_0_0 := cell_below bt_96 kaX_0_0
                  replace kaX_0_1 := cell_below bt_96 kaX_0_1
                  replace kaX_0_2 := cell_below bt_96 kaX_0_2
                  replace kaX_0_3 := cell_below bt_96 kaX_0_3
                  replace kaX_0_4 := cell_below bt_96 kaX_0_4
                  replace kaX_0_5 := cell_below bt_96 kaX_0_5
                  replace kaX_0_6 := cell_below bt_96 kaX_0_6
                  replace kaX_0_7 := cell_below bt_96 kaX_0_7
                  replace kaX_0_8 := cell_below bt_96 kaX_0_8
                  replace Ot_11 := Lib.hid (own_below Ot_11.out bt_96)
                  replace Ot_14a := Lib.hid (own_below Ot_14a.out bt_96)
                  replace Pt_51 := Lib.hid (own_below Pt_51.out bt_96)
                  replace Pt_70 := Lib.hid (own_below Pt_70.out bt_96)
                  replace Ot_44 := Lib.hid (own_below Ot_44.out bt_96)
                  replace Ot_85 := Lib.hid (own_below Ot_85.out bt_96)
                  replace Ot_88a := Lib.hid (own_below Ot_88a.out bt_96)
                  clear bt_96
                  cases t_96 with
                  | false =>
                    replace H := let_hid H
                    obtain ⟨t_97, ht_97, H⟩ := H
                    obtain rfl : t_97 = true := ht_97.symm
                    replace H := join_hid H
                    replace H := ite_t H
                    replace H := app_hid H
                    replace H := ite_t H
                    obtain rfl := ret_hid H
                    go_wp2_with fail
                    go_ret
                    exact ⟨rfl, HBwt_96.out⟩
                  | true =>
                    replace H := let_hid H
                    obtain ⟨t_97, ht_97, H⟩ := H
                    obtain rfl : t_97 = false := ht_97.symm
                    replace H := join_hid H
                    replace H := ite_f H
                    replace H := let_hid H
                    obtain ⟨t_101, ht_101, H⟩ := H
                    replace H := app_hid H
                    cases t_101 with
                    | false =>
                      replace H := ite_f H
                      replace H := bind_hid H
                      obtain ⟨t_107, qt_107, H⟩ := H
                      go_wp2_with fail
                      go_at_call 39
                      refine (Go.Proofs.Ytlljmgphgmklcaa.GlHeldIntS.C (lt_70) (1) At_26a ct_26a _   (Lib.hid (own_cells Pt_70.out)) (Lib.hid (own_max Pt_70.out)) qt_107).mono ?_
                      rintro e_t_107 wt_107 ⟨rfl, bt_107⟩
                      have HBwt_107 := Lib.hid (Below.step HBwt_96.out bt_107)
                      replace kaX_0_0 := cell_below bt_107 kaX_0_0
                      replace kaX_0_1 := cell_below bt_107 kaX_0_1
                      replace kaX_0_2 := cell_below bt_107 kaX_0_2
                      replace kaX_0_3 := cell_below bt_107 kaX_0_3
                      replace kaX_0_4 := cell_below bt_107 kaX_0_4
                      replace kaX_0_5 := cell_below bt_107 kaX_0_5
                      replace kaX_0_6 := cell_below bt_107 kaX_0_6
                      replace kaX_0_7 := cell_below bt_107 kaX_0_7
                      replace kaX_0_8 := cell_below bt_107 kaX_0_8
                      replace Ot_11 := Lib.hid (own_below Ot_11.out bt_107)
                      replace Ot_14a := Lib.hid (own_below Ot_14a.out bt_107)
                      replace Pt_51 := Lib.hid (own_below Pt_51.out bt_107)
                      replace Pt_70 := Lib.hid (own_below Pt_70.out bt_107)
                      replace Ot_44 := Lib.hid (own_below Ot_44.out bt_107)
                      replace Ot_85 := Lib.hid (own_below Ot_85.out bt_107)
                      replace Ot_88a := Lib.hid (own_below Ot_88a.out bt_107)
                      clear bt_107
                      replace H := let_hid H
                      obtain ⟨t_110, ht_110, H⟩ := H
                      cases t_110 with
                      | false =>
                        replace H := ite_f H
                        replace H := let_hid H
                        obtain ⟨t_114, ht_114, H⟩ := H
                        cases t_114 with
                        | false =>
                          replace H := ite_f H
                          obtain rfl := ret_hid H
                          go_wp2_with fail
                          go_ret
                          exact ⟨rfl, HBwt_107.out⟩
                        | true =>
                          replace H := ite_t H
                          obtain rfl := ret_hid H
                          go_wp2_with fail
                          go_ret
                          exact ⟨rfl, HBwt_107.out⟩
                      | true =>
                        replace H := ite_t H
                        obtain rfl := ret_hid H
                        go_wp2_with fail
                        go_ret
                        exact ⟨rfl, HBwt_107.out⟩
                    | true =>
                      replace H := ite_t H
                      obtain rfl := ret_hid H
                      go_wp2_with fail
                      go_ret
                      exact ⟨rfl, HBwt_96.out⟩
                | true =>
                  replace H := ite_t H
                  obtain rfl := ret_hid H
                  go_wp2_with fail
                  go_ret
                  exact ⟨rfl, HBwt_75.out⟩
              | true =>
                replace H := ite_t H
                obtain rfl := ret_hid H
                go_wp2_with fail
                go_ret
                exact ⟨rfl, HBwt_75.out⟩
          | true =>
            replace H := ite_t H
            replace H := app_hid H
            replace H := join_hid H
            replace H := ite_t H
            replace H := app_hid H
            replace H := ite_t H
            obtain rfl := ret_hid H
            go_wp2_with fail
            go_ret
            exact ⟨rfl, HBwt_51.out⟩
      | true =>
        replace H := ite_t H
        obtain rfl := ret_hid H
        go_wp2_with fail
        go_ret
        exact ⟨rfl, HBwt_34.out⟩
  | true =>
    replace H := ite_t H
    obtain rfl := ret_hid H
    go_wp2_with fail
    go_ret
    exact ⟨rfl, HBwt_5.out⟩
end Go.Proofs.Ytlljmgphgmklcaa.GlFnExactRouteOn

/- Chapter 9: mails and routes: the plain functions of the program and of the reference agree, and the laws answer true. (Q9At) No condition but those of each theorem. -/
namespace Go.Proofs.Ytlljmgphgmklcaa.Q9At
set_option linter.unusedVariables false
set_option linter.unusedSimpArgs false
open Go.RowKit
open Go.Proofs.Ytlljmgphgmklcaa.GoP Go.Proofs.Ytlljmgphgmklcaa.PlainStamp Go.Proofs.Ytlljmgphgmklcaa.QBase Go.Proofs.Ytlljmgphgmklcaa.Q9Early Go.Proofs.Ytlljmgphgmklcaa.Q9Dual Go.Proofs.Ytlljmgphgmklcaa.Q9Arr Go.Proofs.Ytlljmgphgmklcaa.Q9List Go.Proofs.Ytlljmgphgmklcaa.Q9Mail Go.Proofs.Ytlljmgphgmklcaa.QLoop Go.Proofs.Ytlljmgphgmklcaa.PMail Go.Proofs.Ytlljmgphgmklcaa.PIntA10

def atRes (l : List Mail) (o m p : Int) : Int × Bool := if askM l o m = true ∧ inB p 0 9 = true ∧ at_ (earlyM l o m) p ≠ 10000 then (at_ (earlyM l o m) p, true) else (0, false)
theorem at_impl (l : List Mail) (hl : l.length ≤ 9223372036854775807) (o m p : Int) : GiEarliestAt.P l o m p = some (atRes l o m p) := by
  simp only [GiEarliestAt.P, canBegin_eq l hl, isOffice_eq, Option.bind_some, letK, joinK, appK, iteK_if, atRes]
  cases ha : askM l o m with
  | false => simp
  | true =>
    obtain ⟨hg, ho, hm⟩ := ask_of ha
    cases hp : inB p 0 9 with
    | false => simp
    | true =>
      have hp2 := inB_of hp
      simp only [Bool.not_true, Bool.false_eq_true, if_false, earliest_eq hg ho, Option.bind_some, un_eq, ten (early_len l o m), idx_at (early_len l o m) hp2]
      by_cases h : at_ (earlyM l o m) p = 10000 <;> simp [h]
theorem at_spec (l : List Mail) (hl : l.length ≤ 9223372036854775807) (o m p : Int) : GsEarliestAt.P l o m p = some (atRes l o m p) := by
  simp only [GsEarliestAt.P, l9Asked_eq l hl, l9Office_eq, Option.bind_some, letK, joinK, appK, iteK_if, atRes]
  cases ha : askM l o m with
  | false => simp
  | true =>
    obtain ⟨hg, ho, hm⟩ := ask_of ha
    cases hp : inB p 0 9 with
    | false => simp
    | true =>
      have hp2 := inB_of hp
      simp only [Bool.not_true, Bool.false_eq_true, if_false, times_eq hg ho, Option.bind_some, idx_at (early_len l o m) hp2]
      by_cases h : at_ (earlyM l o m) p = 10000 <;> simp [h]
end Go.Proofs.Ytlljmgphgmklcaa.Q9At

/- Chapter 9: mails and routes: the plain functions of the program and of the reference agree, and the laws answer true. (Q9Drop) No condition but those of each theorem. -/
namespace Go.Proofs.Ytlljmgphgmklcaa.Q9Drop
set_option linter.unusedVariables false
set_option linter.unusedSimpArgs false
open Go.RowKit
open Go.Proofs.Ytlljmgphgmklcaa.GoP Go.Proofs.Ytlljmgphgmklcaa.PlainStamp Go.Proofs.Ytlljmgphgmklcaa.QBase Go.Proofs.Ytlljmgphgmklcaa.QLoop

/-- a counted loop through a list, by what is still to come -/
theorem cnt_drop {α σ ρ : Type} {l : List α} {f : Nat → σ → (σ → Option ρ) → (σ → Option ρ) → Option ρ} {fin : σ → Option ρ} (F : List α → σ → Option ρ) (nil : ∀ s, F [] s = fin s)
    (cons : ∀ k x s nx, l[k]? = some x → (∀ s', nx s' = F (l.drop (k + 1)) s') → f k s nx fin = F (x :: l.drop (k + 1)) s) (s : σ) : cntK f l.length 0 s fin = F l s := by
  have key : ∀ m k s, k + m = l.length → cntK f m k s fin = F (l.drop k) s := by
    intro m
    induction m with
    | zero => intro k s hk; rw [List.drop_eq_nil_of_le (by omega), nil]; rfl
    | succ m ih =>
      intro k s hk
      have hlt : k < l.length := by omega
      have hd : l.drop k = l[k] :: l.drop (k + 1) := List.drop_eq_getElem_cons hlt
      rw [hd]
      exact cons k l[k] s _ (List.getElem?_eq_getElem hlt) (fun s' => ih (k + 1) s' (by omega))
  exact key l.length 0 s (by omega)
/-- the first place that is good, or none -/
theorem first_or (p : Nat → Bool) (n : Nat) : (∀ k, k < n → p k = false) ∨ ∃ k, k < n ∧ p k = true ∧ ∀ j, j < k → p j = false := by
  induction n with
  | zero => exact Or.inl (fun k h => by omega)
  | succ n ih =>
    rcases ih with h | ⟨k, h1, h2, h3⟩
    · cases hp : p n with
      | true => exact Or.inr ⟨n, by omega, hp, h⟩
      | false => exact Or.inl (fun k hk => by by_cases he : k = n; · rw [he]; exact hp
                                              · exact h k (by omega))
    · exact Or.inr ⟨k, by omega, h2, h3⟩
theorem cnt_none {σ ρ : Type} {f : Nat → σ → (σ → Option ρ) → (σ → Option ρ) → Option ρ} {fin : σ → Option ρ} {n : Nat} {s : σ} {p : Nat → Bool} (step : ∀ k nx, k < n → p k = false → f k s nx fin = nx s) (h : ∀ k, k < n → p k = false) : cntK f n 0 s fin = fin s := by
  have key : ∀ m k, k + m = n → cntK f m k s fin = fin s := by
    intro m
    induction m with
    | zero => intro k hk; rfl
    | succ m ih => intro k hk; show f k s _ fin = _; rw [step k _ (by omega) (h k (by omega))]; exact ih (k + 1) (by omega)
  exact key n 0 (by omega)
theorem cnt_first {σ ρ : Type} {f : Nat → σ → (σ → Option ρ) → (σ → Option ρ) → Option ρ} {fin : σ → Option ρ} {n : Nat} {s : σ} {p : Nat → Bool} {j : Nat} {r : Option ρ} (hj : j < n) (step : ∀ k nx, k < j → p k = false → f k s nx fin = nx s) (h : ∀ k, k < j → p k = false) (yes : ∀ nx, f j s nx fin = r) : cntK f n 0 s fin = r := by
  have key : ∀ d m k, k + d = j → k + m = n → cntK f m k s fin = r := by
    intro d
    induction d with
    | zero => intro m k hk hm
              obtain ⟨m, rfl⟩ : ∃ q, m = q + 1 := ⟨m - 1, by omega⟩
              obtain rfl : k = j := by omega
              exact yes _
    | succ d ih => intro m k hk hm
                   obtain ⟨m, rfl⟩ : ∃ q, m = q + 1 := ⟨m - 1, by omega⟩
                   show f k s _ fin = _
                   rw [step k _ (by omega) (h k (by omega))]
                   exact ih m (k + 1) (by omega) (by omega)
  exact key j n 0 (by omega) (by omega)
end Go.Proofs.Ytlljmgphgmklcaa.Q9Drop

/- loop.example/g01062/impl.EndOfRoute as a plain function, and the contract of the program's: where the plain one has an answer, the program has it. Conditions: slices read as lists. -/
namespace Go.Proofs.Ytlljmgphgmklcaa.GiEndOfRoute
set_option linter.unusedVariables false
set_option linter.unusedSimpArgs false
open Go.RowKit
open Go.Proofs.Ytlljmgphgmklcaa.Rowed Go.Proofs.Ytlljmgphgmklcaa.Turn Go.Proofs.Ytlljmgphgmklcaa.Aid Go.Proofs.Ytlljmgphgmklcaa.GoP Go.Proofs.Ytlljmgphgmklcaa.GoM

def l0 (list : (List Go.Proofs.Ytlljmgphgmklcaa.PMail.Mail)) (route : (List Int)) (k0 : Nat) (s : Int × Int) (nx0 bk0 : Int × Int → Option (Int × Int × Bool)) : Option (Int × Int × Bool) :=
  unp2 s fun office_11l0 end_12l0 =>
  Option.bind (idx route (k0 : Int)) fun (yt_19 : Int) =>
  letK (IntKind.i64.wrap ((list.length : Int) - 1)) fun (t_25 : Int) =>
  Option.bind (Go.Proofs.Ytlljmgphgmklcaa.GiWithin.P yt_19 0 t_25) fun (t_26 : Bool) =>
  letK (!t_26) fun (t_27 : Bool) =>
  joinK (fun (t_37 : Bool) =>
  iteK t_37
  (some (0, 0, false))
  (Option.bind (idx list yt_19) fun (yt_43 : Go.Proofs.Ytlljmgphgmklcaa.PMail.Mail) =>
  unMail yt_43 fun (t_43_leave : Int) (t_43_from_ : Int) (t_43_to_ : Int) (t_43_arrive : Int) =>
  Option.bind (idx list yt_19) fun (yt_48 : Go.Proofs.Ytlljmgphgmklcaa.PMail.Mail) =>
  unMail yt_48 fun (t_48_leave : Int) (t_48_from_ : Int) (t_48_to_ : Int) (t_48_arrive : Int) =>
  appK nx0 (t_43_to_, t_48_arrive))) fun jt_37 => iteK t_27 (appK jt_37 true) (Option.bind (idx list yt_19) fun (yt_31 : Go.Proofs.Ytlljmgphgmklcaa.PMail.Mail) =>
  unMail yt_31 fun (t_31_leave : Int) (t_31_from_ : Int) (t_31_to_ : Int) (t_31_arrive : Int) =>
  Option.bind (Go.Proofs.Ytlljmgphgmklcaa.GiCanTake.P (Go.Proofs.Ytlljmgphgmklcaa.PMail.Mail.mk t_31_leave t_31_from_ t_31_to_ t_31_arrive) office_11l0 end_12l0) fun (t_35 : Bool) =>
  letK (!t_35) fun (t_36 : Bool) =>
  appK jt_37 t_36)

def e0  (s : Int × Int) : Option (Int × Int × Bool) :=
  unp2 s fun office_11l0 end_12l0 =>
  some (office_11l0, end_12l0, true)

def P (list : (List Go.Proofs.Ytlljmgphgmklcaa.PMail.Mail)) (from_1 : Int) (minute : Int) (route : (List Int)) : Option (Int × Int × Bool) :=
  Option.bind (Go.Proofs.Ytlljmgphgmklcaa.GiCanBegin.P list from_1 minute) fun (t_6 : Bool) =>
  letK (!t_6) fun (t_7 : Bool) =>
  iteK t_7
  (some (0, 0, false))
  (cntK (l0 list route) (route.length) 0 (from_1, minute) (e0 ))

set_option maxRecDepth 100000 in
set_option maxHeartbeats 2000000 in
theorem C (list : (List Go.Proofs.Ytlljmgphgmklcaa.PMail.Mail)) (from_1 : Int) (minute : Int) (route : (List Int)) (A0 : Option Addr) (c0 : Nat) (A3 : Option Addr) (c3 : Nat)  (w : World) (M0 : Hid (Cells w 4 A0 list.length (Go.Proofs.Ytlljmgphgmklcaa.PMail.flat list))) (N0 : Hid (list.length ≤ 9223372036854775807)) (M3 : Hid (Cells w 1 A3 route.length (Go.Proofs.Ytlljmgphgmklcaa.HelpInt.iv route))) (N3 : Hid (route.length ≤ 9223372036854775807))  {r0 : Int} {r1 : Int} {r2 : Bool} (H : Hid (P list from_1 minute route = some (r0, r1, r2))) :
    Calls Try.prog 56 #[.slice A0 list.length c0, .int .i64 from_1, .int .i64 minute, .slice A3 route.length c3] w (Gives (.tuple #[.int .i64 r0, .int .i64 r1, .bool r2]) w) := by
  have HB := Lib.hid (Below.refl w.heap.size w)
  unfold P at H
  have N0o := N0.out
  have N3o := N3.out
  go_enter Try.func56, Try.ntmps56
  replace H := bind_hid H
  obtain ⟨t_6, qt_6, H⟩ := H
  go_wp2_with fail
  go_at_call 117
  refine (Go.Proofs.Ytlljmgphgmklcaa.GiCanBegin.C (list) (from_1) (minute) A0 c0 _   (Lib.hid (Cells.below M0.out HB.out)) N0 qt_6).mono ?_
  rintro e_t_6 wt_6 ⟨rfl, bt_6⟩
  have HBwt_6 := Lib.hid (Below.step HB.out bt_6)
  clear bt_6
  cases t_6 with
  | false =>
    replace H := let_hid H
    obtain ⟨t_7, ht_7, H⟩ := H
    obtain rfl : t_7 = true := ht_7.symm
    replace H := ite_t H
    cases ret_hid H
    go_wp2_with fail
    go_ret3
    exact ⟨rfl, HBwt_6.out⟩
  | true =>
    replace H := let_hid H
    obtain ⟨t_7, ht_7, H⟩ := H
    obtain rfl : t_7 = false := ht_7.symm
    replace H := ite_f H
    go_wp2_with fail
    go_loopg [24, 11, 12] (route.length) (fun m_ v24_ v11_ v12_ wr => ∃ (k0 : Nat) (office_11l0 : Int) (end_12l0 : Int), k0 + m_ = route.length ∧ v24_ = .int .i64 (k0 : Int) ∧ v11_ = .int .i64 office_11l0 ∧ v12_ = .int .i64 end_12l0 ∧ Hid (cntK (l0 list route) m_ k0 (office_11l0, end_12l0) (e0 ) = some (r0, r1, r2)) ∧ Hid (Below w.heap.size w wr))
    case atStart => exact ⟨0, _, _, by omega, rfl, rfl, rfl, H, HBwt_6⟩
    case round =>
      obtain ⟨k0, office_11l0, end_12l0, hkm0, rfl, rfl, rfl, H, HBwr0⟩ := hrel
      rename World => wr0
      cases gk with
      | zero =>
        obtain rfl : k0 = route.length := by omega
        have hc0 : decide (((route.length : Nat) : Int) < ((route.length : Nat) : Int)) = false := by simp
        replace H := cnt_zero H
        unfold e0 at H
        replace H := unp2_hid H
        cases ret_hid H
        go_wp2_with fail
        go_ret3
        exact ⟨rfl, HBwr0.out⟩
      | succ m0 =>
        have hlt0 : k0 < route.length := by omega
        have hc0 : decide ((k0 : Int) < ((route.length : Nat) : Int)) = true := by simp; omega
        replace H := cnt_succ H
        unfold l0 at H
        replace H := unp2_hid H
        replace H := idx_hid H
        obtain ⟨nt_19, yt_19, et_19, lt_19, gt_19, H⟩ := H
        obtain rfl : k0 = nt_19 := by omega
        clear et_19
        obtain ⟨ab_t_19, ao_t_19, zt_19, At_19, z_t_19, ct_19_0⟩ := Go.Proofs.Ytlljmgphgmklcaa.HelpInt.Ints.at_ M3.out lt_19
        obtain rfl := Option.some.inj (gt_19.out.symm.trans z_t_19)
        subst At_19
        have ltt_19 := cell_lt ct_19_0
        replace ct_19_0 := cell_below HBwr0.out ct_19_0
        clear z_t_19
        have b0t_19 : (0 : Int) ≤ (k0 : Int) := by omega
        have b1t_19 : (k0 : Int) < ((route.length : Nat) : Int) := by omega
        have b2t_19 : ((k0 : Int)).toNat = k0 := by omega
        replace H := let_hid H
        obtain ⟨t_25, ht_25, H⟩ := H
        try have hv_t_25 : (list.length : Int) - 1 = t_25 := by rw [← ht_25]; exact (IntWalk.i64_in _ (by omega)).symm
        try have hv2_t_25 : IntKind.i64.wrap t_25 = t_25 := by rw [← hv_t_25]; exact IntWalk.i64_in _ (by omega)
        replace H := bind_hid H
        obtain ⟨t_26, qt_26, H⟩ := H
        go_wp2_with fail
        go_at_call 78
        refine (Go.Proofs.Ytlljmgphgmklcaa.GiWithin.C (yt_19) (0) (t_25)  _    qt_26).mono ?_
        rintro e_t_26 wt_26 ⟨rfl, bt_26⟩
        have HBwt_26 := Lib.hid (Below.step HBwr0.out bt_26)
        replace ct_19_0 := cell_below bt_26 ct_19_0
        clear bt_26
        cases t_26 with
        | false =>
          replace H := let_hid H
          obtain ⟨t_27, ht_27, H⟩ := H
          obtain rfl : t_27 = true := ht_27.symm
          replace H := join_hid H
          replace H := ite_t H
          replace H := app_hid H
          replace H := ite_t H
          cases ret_hid H
          go_wp2_with fail
          go_ret3
          exact ⟨rfl, HBwt_26.out⟩
        | true =>
          replace H := let_hid H
          obtain ⟨t_27, ht_27, H⟩ := H
          obtain rfl : t_27 = false := ht_27.symm
          replace H := join_hid H
          replace H := ite_f H
          replace H := idx_hid H
          obtain ⟨nt_31, yt_31, et_31, lt_31, gt_31, H⟩ := H
          subst et_31
          obtain ⟨t_31_leave, t_31_from_, t_31_to_, t_31_arrive⟩ := yt_31
          replace H := unMail_hid H
          obtain ⟨ab_t_31, ao_t_31, zt_31, At_31, z_t_31, ct_31_0, ct_31_1, ct_31_2, ct_31_3⟩ := Go.Proofs.Ytlljmgphgmklcaa.OMail.at_ M0.out lt_31
          obtain rfl := Option.some.inj (gt_31.out.symm.trans z_t_31)
          subst At_31
          have ltt_31 := cell_lt ct_31_0
          replace ct_31_0 := cell_below HBwt_26.out ct_31_0
          replace ct_31_1 := cell_below HBwt_26.out ct_31_1
          replace ct_31_2 := cell_below HBwt_26.out ct_31_2
          replace ct_31_3 := cell_below HBwt_26.out ct_31_3
          clear z_t_31
          have b0t_31 : (0 : Int) ≤ (nt_31 : Int) := by omega
          have b1t_31 : (nt_31 : Int) < ((list.length : Nat) : Int) := by omega
          have b2t_31 : ((nt_31 : Int)).toNat = nt_31 := by omega
          replace H := bind_hid H
          obtain ⟨t_35, qt_35, H⟩ := H
          go_wp2_with fail
          go_at_call 118
          refine (Go.Proofs.Ytlljmgphgmklcaa.GiCanTake.C ((Go.Proofs.Ytlljmgphgmklcaa.PMail.Mail.mk t_31_leave t_31_from_ t_31_to_ t_31_arrive)) (office_11l0) (end_12l0)  _    qt_35).mono ?_
          rintro e_t_35 wt_35 ⟨rfl, bt_35⟩
          have HBwt_35 := Lib.hid (Below.step HBwt_26.out bt_35)
          replace ct_19_0 := cell_below bt_35 ct_19_0
          replace ct_31_0 := cell_below bt_35 ct_31_0
          replace ct_31_1 := cell_below bt_35 ct_31_1
          replace ct_31_2 := cell_below bt_35 ct_31_2
          replace ct_31_3 := cell_below bt_35 ct_31_3
          clear bt_35
          cases t_35 with
          | false =>
            replace H := let_hid H
            obtain ⟨t_36, ht_36, H⟩ := H
            obtain rfl : t_36 = true := ht_36.symm
            replace H := app_hid H
            replace H := ite_t H
            cases ret_hid H
            go_wp2_with fail
            go_ret3
            exact ⟨rfl, HBwt_35.out⟩
          | true =>
            replace H := let_hid H
            obtain ⟨t_36, ht_36, H⟩ := H
            obtain rfl : t_36 = false := ht_36.symm
            replace H := app_hid H
            replace H := ite_f H
            go_wp2_with fail
            have Hct_19_0 := Lib.hid ct_19_0
            replace ct_19_0 := cell_regrown ct_19_0
            have Hct_31_0 := Lib.hid ct_31_0
            replace ct_31_0 := cell_regrown ct_31_0
            have Hct_31_1 := Lib.hid ct_31_1
            replace ct_31_1 := cell_regrown ct_31_1
            have Hct_31_2 := Lib.hid ct_31_2
            replace ct_31_2 := cell_regrown ct_31_2
            have Hct_31_3 := Lib.hid ct_31_3
            replace ct_31_3 := cell_regrown ct_31_3
            replace H := idx_hid H
            obtain ⟨nt_43, yt_43, et_43, lt_43, gt_43, H⟩ := H
            obtain rfl : nt_31 = nt_43 := by omega
            clear et_43
            obtain rfl := Option.some.inj (gt_31.out.symm.trans gt_43.out)
            clear gt_43 lt_43
            replace H := unMail_hid H
            replace H := idx_hid H
            obtain ⟨nt_48, yt_48, et_48, lt_48, gt_48, H⟩ := H
            obtain rfl : nt_31 = nt_48 := by omega
            clear et_48
            obtain rfl := Option.some.inj (gt_31.out.symm.trans gt_48.out)
            clear gt_48 lt_48
            replace H := unMail_hid H
            refine wp_region_quiet_below (by kernel_rfl) (by kernel_rfl) ?_
            repeat (go_big_quiet_step (fail))
            refine wpQuiet_nil ?_
            intro Y9 hY9
            replace hY9 := below_class hY9
            replace ct_19_0 := Hct_19_0.out
            clear Hct_19_0
            replace ct_31_0 := Hct_31_0.out
            clear Hct_31_0
            replace ct_31_1 := Hct_31_1.out
            clear Hct_31_1
            replace ct_31_2 := Hct_31_2.out
            clear Hct_31_2
            replace ct_31_3 := Hct_31_3.out
            clear Hct_31_3
            have HBY9 := Lib.hid (Below.step HBwt_35.out hY9)
            replace ct_19_0 := cell_below hY9 ct_19_0
            replace ct_31_0 := cell_below hY9 ct_31_0
            replace ct_31_1 := cell_below hY9 ct_31_1
            replace ct_31_2 := cell_below hY9 ct_31_2
            replace ct_31_3 := cell_below hY9 ct_31_3
            clear hY9
            replace H := app_hid H
            go_wp2_with fail
            go_roundg m0
            case measure => omega
            case rel => exact ⟨k0 + 1, _, _, by omega, by go_num, rfl, rfl, H, HBY9⟩
end Go.Proofs.Ytlljmgphgmklcaa.GiEndOfRoute

/- Chapter 9: mails and routes: the plain functions of the program and of the reference agree, and the laws answer true. (Q9End) No condition but those of each theorem. -/
namespace Go.Proofs.Ytlljmgphgmklcaa.Q9End
set_option linter.unusedVariables false
set_option linter.unusedSimpArgs false
open Go.RowKit
open Go.Proofs.Ytlljmgphgmklcaa.GoP Go.Proofs.Ytlljmgphgmklcaa.PlainStamp Go.Proofs.Ytlljmgphgmklcaa.QBase Go.Proofs.Ytlljmgphgmklcaa.Q9Drop Go.Proofs.Ytlljmgphgmklcaa.Q9List Go.Proofs.Ytlljmgphgmklcaa.Q9Mail Go.Proofs.Ytlljmgphgmklcaa.QLoop Go.Proofs.Ytlljmgphgmklcaa.PMail

/-- where a list of numbers ends, if it is a route -/
def endF (l : List Mail) : List Int → Int → Int → Option (Int × Int)
  | [], o, m => some (o, m)
  | i :: r, o, m => if 0 ≤ i then (match l[i.toNat]? with | none => none | some x => if x.from_ = o ∧ m ≤ x.leave then endF l r x.to_ x.arrive else none) else none
def endRes (l : List Mail) (r : List Int) (s : Int × Int) : Option (Int × Int × Bool) := some (match endF l r s.1 s.2 with | none => (0, 0, false) | some (a, b) => (a, b, true))
theorem canTake_eq (x : Mail) (o m : Int) : GiCanTake.P x o m = some (decide (x.from_ = o ∧ m ≤ x.leave)) := by
  obtain ⟨a, b, c, d⟩ := x
  simp only [GiCanTake.P, unMail, letK, joinK, appK, iteK_if]
  by_cases h1 : b = o <;> by_cases h2 : m ≤ a <;> simp [h1, h2]
theorem end_loop (l : List Mail) (hl : l.length ≤ 9223372036854775807) (r : List Int) (s : Int × Int) : cntK (GiEndOfRoute.l0 l r) r.length 0 s GiEndOfRoute.e0 = endRes l r s := by
  refine cnt_drop (endRes l) (fun s => rfl) (fun k i s nx hi hn => ?_) s
  obtain ⟨o, m⟩ := s
  have hx : idx r (k : Int) = some i := by rw [idx_nat, hi]
  simp only [GiEndOfRoute.l0, unp2_mk, hx, Option.bind_some, letK, within_eq, canTake_eq, joinK, appK, iteK_if]
  rw [wrap_in (by omega) (by omega)]
  unfold endRes
  simp only [endF]
  by_cases h0 : 0 ≤ i
  · by_cases h1 : i ≤ (l.length : Int) - 1
    · have hb : inB i 0 ((l.length : Int) - 1) = true := by unfold inB; simp [h0, h1]
      have hk : i.toNat < l.length := by omega
      have hl2 : l[i.toNat]? = some l[i.toNat] := List.getElem?_eq_getElem hk
      have hl3 : idx l i = some l[i.toNat] := by unfold idx; rw [if_pos h0, hl2]
      rw [hb, hl3, hl2]
      generalize l[i.toNat] = x
      obtain ⟨a, b, c, d⟩ := x
      simp only [Option.bind_some, unMail, Bool.not_true, Bool.false_eq_true, if_false, if_pos h0, hn]
      by_cases hc : b = o ∧ m ≤ a
      · simp [hc, endRes]
      · simp [hc]
    · have hb : inB i 0 ((l.length : Int) - 1) = false := by unfold inB; simp [h1]
      have hl2 : l[i.toNat]? = none := List.getElem?_eq_none (by omega)
      rw [hb, hl2, if_pos h0]; rfl
  · have hb : inB i 0 ((l.length : Int) - 1) = false := by unfold inB; simp [h0]
    rw [hb, if_neg h0]; rfl
def endA (l : List Mail) (o m : Int) (r : List Int) : Int × Int × Bool := if askM l o m = true then (match endF l r o m with | none => (0, 0, false) | some (a, b) => (a, b, true)) else (0, 0, false)
theorem end_impl (l : List Mail) (hl : l.length ≤ 9223372036854775807) (o m : Int) (r : List Int) : GiEndOfRoute.P l o m r = some (endA l o m r) := by
  simp only [GiEndOfRoute.P, canBegin_eq l hl, Option.bind_some, letK, iteK_if, end_loop l hl, endA, endRes]
  cases askM l o m <;> rfl
def isRt (l : List Mail) (o m : Int) (r : List Int) : Bool × Bool := if askM l o m = true ∧ r.length ≤ 20 then ((endF l r o m).isSome, true) else (false, false)
end Go.Proofs.Ytlljmgphgmklcaa.Q9End

/- Chapter 9: mails and routes: the plain functions of the program and of the reference agree, and the laws answer true. (Q9Best) No condition but those of each theorem. -/
namespace Go.Proofs.Ytlljmgphgmklcaa.Q9Best
set_option linter.unusedVariables false
set_option linter.unusedSimpArgs false
open Go.RowKit
open Go.Proofs.Ytlljmgphgmklcaa.GoP Go.Proofs.Ytlljmgphgmklcaa.PlainStamp Go.Proofs.Ytlljmgphgmklcaa.QBase Go.Proofs.Ytlljmgphgmklcaa.Q9Late Go.Proofs.Ytlljmgphgmklcaa.Q9Early Go.Proofs.Ytlljmgphgmklcaa.Q9At Go.Proofs.Ytlljmgphgmklcaa.QFoldS Go.Proofs.Ytlljmgphgmklcaa.Q9Drop Go.Proofs.Ytlljmgphgmklcaa.Q9End Go.Proofs.Ytlljmgphgmklcaa.Q9Cand Go.Proofs.Ytlljmgphgmklcaa.Q9Dual Go.Proofs.Ytlljmgphgmklcaa.Q9Arr Go.Proofs.Ytlljmgphgmklcaa.Q9List Go.Proofs.Ytlljmgphgmklcaa.Q9Mail Go.Proofs.Ytlljmgphgmklcaa.QUp Go.Proofs.Ytlljmgphgmklcaa.QAll Go.Proofs.Ytlljmgphgmklcaa.QLoop Go.Proofs.Ytlljmgphgmklcaa.PMail Go.Proofs.Ytlljmgphgmklcaa.PIntA10 Go.Proofs.Ytlljmgphgmklcaa.GoA

/-- the round of both: the first mail that leads on, or the end -/
theorem both {l : List Mail} (hg : goodM l = true) {p e : Int} (hp : 0 ≤ p ∧ p ≤ 9) (he : 0 ≤ e ∧ e ≤ 9999) : ∀ (fuel : Nat) (o m : Int) (acc : List Int), (0 ≤ o ∧ o ≤ 9) → (0 ≤ m ∧ m ≤ e) → at_ (earlyM l o m) p = e → (acc.length : Int) ≤ m → e - m < (fuel : Int) →
    ∃ r, loopK (GiFirstRoute.l0 l (lateM l p e)) fuel (o, m, acc) GiFirstRoute.e0 = some (acc ++ r) ∧ loopK (GsBestRoute.l0 l p e) fuel (o, m, acc) GsBestRoute.e0 = some (acc ++ r, true) ∧ endF l r o m = some (p, e) ∧ (r.length : Int) ≤ e - m := by
  intro fuel
  induction fuel with
  | zero => intro o m acc _ _ _ _ hf; omega
  | succ n ih =>
    intro o m acc ho hm hE hacc hf
    have hlen := m_len hg
    have step : ∀ (k : Nat) (x : Mail), l[k]? = some x → cand l p e o m x = true → ∃ r, loopK (GiFirstRoute.l0 l (lateM l p e)) n (x.to_, x.arrive, acc ++ [(k : Int)]) GiFirstRoute.e0 = some (acc ++ [(k : Int)] ++ r) ∧ loopK (GsBestRoute.l0 l p e) n (x.to_, x.arrive, acc ++ [(k : Int)]) GsBestRoute.e0 = some (acc ++ [(k : Int)] ++ r, true) ∧ endF l r x.to_ x.arrive = some (p, e) ∧ (r.length : Int) ≤ e - x.arrive ∧ x.from_ = o ∧ m ≤ x.leave ∧ x.leave < x.arrive := by
      intro k x hx hc
      have hx1 := okM_of (m_ok hg hx)
      rw [cand_iff hg hp hm.1 he.2 hE hx] at hc
      obtain ⟨h1, h2, h3⟩ := of_decide_eq_true hc
      have h4 := early_low hg hx1.2.1 (m := x.arrive) (by omega) hp
      obtain ⟨r, r1, r2, r3, r4⟩ := ih x.to_ x.arrive (acc ++ [(k : Int)]) hx1.2.1 (by omega) h3 (by simp; omega) (by omega)
      exact ⟨r, r1, r2, r3, r4, h1, h2, hx1.2.2.2.2.1⟩
    -- a round of the program's inner loop
    have inner1 : ∀ (k : Nat) nx, k < l.length → (match l[k]? with | none => false | some x => cand l p e o m x) = false → GiFirstRoute.l1 l (lateM l p e) (fun s' => loopK (GiFirstRoute.l0 l (lateM l p e)) n s' GiFirstRoute.e0) k (o, m, acc) nx GiFirstRoute.e1 = nx (o, m, acc) := by
      intro k nx hk hc
      have hx : l[k]? = some l[k] := List.getElem?_eq_getElem hk
      have hi : idx l (k : Int) = some l[k] := by rw [idx_nat, hx]
      have hx1 := okM_of (m_ok hg hx)
      rw [hx] at hc
      try dsimp only at hc
      revert hi hx1 hc
      generalize l[k] = x
      intro hc hi hx1
      obtain ⟨a, b, c, d⟩ := x
      try dsimp only at hx1
      unfold cand at hc
      have hc2 := of_decide_eq_false hc
      try dsimp only at hc2
      simp only [GiFirstRoute.l1, unp3_mk, hi, Option.bind_some, unMail, canTake_eq, joinK, appK, iteK_if, idx_at (late_len l p e) hx1.2.1, letK]
      by_cases h1 : b = o ∧ m ≤ a
      · have h2 : ¬ d ≤ at_ (lateM l p e) c := fun q => hc2 ⟨h1.1, h1.2, q⟩
        simp [h1, h2]
      · simp [h1]
    have inner2 : ∀ (k : Nat) nx, k < l.length → (match l[k]? with | none => false | some x => cand l p e o m x) = false → GsBestRoute.l1 l p e k (o, m, acc) nx (GsBestRoute.e1 (fun s' => loopK (GsBestRoute.l0 l p e) n s' GsBestRoute.e0)) = nx (o, m, acc) := by
      intro k nx hk hc
      have hx : l[k]? = some l[k] := List.getElem?_eq_getElem hk
      have hi : idx l (k : Int) = some l[k] := by rw [idx_nat, hx]
      have hx1 := okM_of (m_ok hg hx)
      have hci := cand_iff hg hp hm.1 he.2 hE hx
      rw [hx] at hc
      try dsimp only at hc
      rw [hci] at hc
      revert hi hx1 hc
      generalize l[k] = x
      intro hc hi hx1
      obtain ⟨a, b, c, d⟩ := x
      try dsimp only at hx1
      have hc2 := of_decide_eq_false hc
      try dsimp only at hc2
      simp only [GsBestRoute.l1, unp3_mk, hi, Option.bind_some, unMail, joinK, appK, iteK_if, letK, times_eq hg hx1.2.1, idx_at (early_len l c d) hp]
      by_cases h1 : b = o
      · by_cases h2 : m ≤ a
        · have h3 : ¬ at_ (earlyM l c d) p = e := fun q => hc2 ⟨h1, h2, q⟩
          simp [h1, h2, h3]
        · simp [h1, h2]
      · simp [h1]
    show ∃ r, GiFirstRoute.l0 l (lateM l p e) (o, m, acc) (fun s' => loopK (GiFirstRoute.l0 l (lateM l p e)) n s' GiFirstRoute.e0) GiFirstRoute.e0 = some (acc ++ r) ∧ GsBestRoute.l0 l p e (o, m, acc) (fun s' => loopK (GsBestRoute.l0 l p e) n s' GsBestRoute.e0) GsBestRoute.e0 = some (acc ++ r, true) ∧ _
    have hnone := cand_none hg hp ho hm.1 he.2 hE (by omega)
    rcases first_or (fun k => match l[k]? with | none => false | some x => cand l p e o m x) l.length with h | ⟨k, hk, hk2, hk3⟩
    · have hend := hnone.1 (fun x hx => by
        obtain ⟨k, hk⟩ := List.getElem?_of_mem hx
        have := h k (List.getElem?_eq_some_iff.1 hk).1
        rw [hk] at this; exact this)
      obtain ⟨rfl, rfl⟩ := hend
      refine ⟨[], ?_, ?_, rfl, by simp⟩
      · simp only [GiFirstRoute.l0, unp3_mk]
        rw [cnt_none inner1 h]; simp [GiFirstRoute.e1, unp3_mk]
      · simp [GsBestRoute.l0, unp3_mk, letK, joinK, appK, iteK_if, GsBestRoute.e0]
    · have hx : l[k]? = some l[k] := List.getElem?_eq_getElem hk
      have hi : idx l (k : Int) = some l[k] := by rw [idx_nat, hx]
      have hx1 := okM_of (m_ok hg hx)
      have hci := cand_iff hg hp hm.1 he.2 hE hx
      rw [hx] at hk2
      try dsimp only at hk2
      obtain ⟨r, r1, r2, r3, r4, r5, r6, r7⟩ := step k l[k] hx hk2
      refine ⟨(k : Int) :: r, ?_, ?_, ?_, ?_⟩
      · rw [show acc ++ (k : Int) :: r = acc ++ [(k : Int)] ++ r by simp]
        simp only [GiFirstRoute.l0, unp3_mk]
        refine cnt_first (p := fun k => match l[k]? with | none => false | some x => cand l p e o m x) hk (fun k nx h1 h2 => inner1 k nx (by omega) h2) hk3 (fun nx => ?_)
        rw [← r1]
        unfold cand at hk2
        have hc2 := of_decide_eq_true hk2
        clear r1 r2 r3 r4 hk2 hci hx
        revert hi hx1 hc2
        generalize l[k] = x
        intro hi hx1 hc2
        obtain ⟨a, b, c, d⟩ := x
        dsimp only at hx1 hc2
        simp only [GiFirstRoute.l1, unp3_mk, hi, Option.bind_some, unMail, canTake_eq, joinK, appK, iteK_if, idx_at (late_len l p e) hx1.2.1, letK]
        rw [guardK_pos (by omega)]
        simp [hc2]
      · rw [show acc ++ (k : Int) :: r = acc ++ [(k : Int)] ++ r by simp]
        have hne : ¬ (o = p ∧ m = e) := by
          intro q
          have := hnone.2 q l[k] (List.mem_of_getElem? hx)
          rw [this] at hk2; exact absurd hk2 (by simp)
        simp only [GsBestRoute.l0, unp3_mk, letK, joinK, appK, iteK_if]
        have hgo : cntK (GsBestRoute.l1 l p e) l.length 0 (o, m, acc) (GsBestRoute.e1 (fun s' => loopK (GsBestRoute.l0 l p e) n s' GsBestRoute.e0)) = some (acc ++ [(k : Int)] ++ r, true) := by
          refine cnt_first (p := fun k => match l[k]? with | none => false | some x => cand l p e o m x) hk (fun k nx h1 h2 => inner2 k nx (by omega) h2) hk3 (fun nx => ?_)
          rw [← r2]
          rw [hci] at hk2
          have hc2 := of_decide_eq_true hk2
          clear r1 r2 r3 r4 hk2 hci hx
          revert hi hx1 hc2
          generalize l[k] = x
          intro hi hx1 hc2
          obtain ⟨a, b, c, d⟩ := x
          dsimp only at hx1 hc2
          simp only [GsBestRoute.l1, unp3_mk, hi, Option.bind_some, unMail, joinK, appK, iteK_if, letK, times_eq hg hx1.2.1, idx_at (early_len l c d) hp]
          rw [guardK_pos (by omega)]
          simp [hc2, GsBestRoute.e1, unp3_mk, appK]
        by_cases h1 : o = p
        · have h2 : ¬ m = e := fun q => hne ⟨h1, q⟩
          simp [h1, h2] at hgo ⊢
          exact hgo
        · simp [h1] at hgo ⊢
          exact hgo
      · simp only [endF]
        rw [if_pos (by omega), show ((k : Int)).toNat = k by omega, hx]
        dsimp only
        rw [if_pos ⟨r5, r6⟩]; exact r3
      · simp; omega
theorem best_both {fuel : Nat} (l : List Mail) (hl : l.length ≤ 9223372036854775807) (o m p : Int) (hf : 10000 < fuel) : ∃ r ok, GiBestRoute.P fuel l o m p = some (r, ok) ∧ GsBestRoute.P fuel l o m p = some (r, ok) ∧ r.length ≤ 10000 ∧ ok = (atRes l o m p).2 ∧ (ok = true → endF l r o m = some (p, (atRes l o m p).1)) := by
  simp only [GiBestRoute.P, GsBestRoute.P, at_impl l hl, at_spec l hl]
  by_cases h : askM l o m = true ∧ inB p 0 9 = true ∧ at_ (earlyM l o m) p ≠ 10000
  · have hr : atRes l o m p = (at_ (earlyM l o m) p, true) := by unfold atRes; rw [if_pos h]
    obtain ⟨h1, h2, h3⟩ := h
    obtain ⟨hg, ho, hm⟩ := ask_of h1
    have hp := inB_of h2
    have htop := early_top hg (m := m) ho hm.2 hp
    have hlow := early_low hg (m := m) ho hm.2 hp
    rw [hr]
    obtain ⟨r, r1, r2, r3, r4⟩ := both hg hp (e := at_ (earlyM l o m) p) (by omega) fuel o m [] ho (by omega) rfl (by simp; omega) (by omega)
    rw [List.nil_append] at r1 r2
    refine ⟨r, true, ?_, ?_, by omega, rfl, fun _ => r3⟩
    · simp only [bind2_some, letK, iteK_if, Bool.not_true, Bool.false_eq_true, if_false, latest_eq hg hp _ (show 20 < fuel by omega), Option.bind_some, un_eq, GiFirstRoute.P]
      rw [ten (late_len l p _), r1]; rfl
    · simp only [bind2_some, letK, iteK_if, Bool.not_true, Bool.false_eq_true, if_false]
      exact r2
  · have hr : atRes l o m p = (0, false) := by unfold atRes; rw [if_neg h]
    rw [hr]
    exact ⟨[], false, rfl, rfl, by simp, rfl, fun q => absurd q (by simp)⟩
end Go.Proofs.Ytlljmgphgmklcaa.Q9Best

/- Chapter 10: covers: the plain functions of the program and of the reference agree, and the laws answer true. (Q10Route) No condition but those of each theorem. -/
namespace Go.Proofs.Ytlljmgphgmklcaa.Q10Route
set_option linter.unusedVariables false
set_option linter.unusedSimpArgs false
open Go.RowKit
open Go.Proofs.Ytlljmgphgmklcaa.GoP Go.Proofs.Ytlljmgphgmklcaa.PlainStamp Go.Proofs.Ytlljmgphgmklcaa.QBase Go.Proofs.Ytlljmgphgmklcaa.Q10Fault Go.Proofs.Ytlljmgphgmklcaa.Q10Cover Go.Proofs.Ytlljmgphgmklcaa.Q9Best Go.Proofs.Ytlljmgphgmklcaa.Q9At Go.Proofs.Ytlljmgphgmklcaa.Q9Early Go.Proofs.Ytlljmgphgmklcaa.Q9Dual Go.Proofs.Ytlljmgphgmklcaa.Q9Arr Go.Proofs.Ytlljmgphgmklcaa.Q9List Go.Proofs.Ytlljmgphgmklcaa.Q9End Go.Proofs.Ytlljmgphgmklcaa.Q9Mail Go.Proofs.Ytlljmgphgmklcaa.QLoop Go.Proofs.Ytlljmgphgmklcaa.PCover Go.Proofs.Ytlljmgphgmklcaa.PMail Go.Proofs.Ytlljmgphgmklcaa.PIntA10

theorem end_impl {ms : List Mail} {x : Cover} (hm : goodM ms = true) (hx : okC x = true) : GiEarliestEnd.P ms x = some (endV ms x) := by
  have hc := okC_of hx
  obtain ⟨a, b, c, d, e, f, g, h, i⟩ := x
  dsimp only at hc
  simp only [GiEarliestEnd.P, unCover, earliest_eq hm hc.2.2.2.1, Option.bind_some, un_eq, letK, ten (early_len ms f h), idx_at (early_len ms f h) hc.2.2.2.2.1, endV]
theorem at_cover {ms : List Mail} {x : Cover} (hm : goodM ms = true) (hx : okC x = true) : atRes ms x.from_ x.leave x.to_ = if endV ms x = 10000 then (0, false) else (endV ms x, true) := by
  have hc := okC_of hx
  have h1 : inB x.from_ 0 9 = true := by unfold inB; simp; omega
  have h2 : inB x.leave 0 9999 = true := by unfold inB; simp; omega
  have h3 : inB x.to_ 0 9 = true := by unfold inB; simp; omega
  unfold atRes
  simp only [askM, hm, h1, h2, h3, Bool.and_self, true_and]
  unfold endV
  by_cases he : at_ (earlyM ms x.from_ x.leave) x.to_ = 10000
  · rw [if_pos he, if_neg (fun h => h he)]
  · rw [if_neg he, if_pos he]
theorem route_l10 {fuel : Nat} {ms : List Mail} (hl : ms.length ≤ 9223372036854775807) {x : Cover} (hm : goodM ms = true) (hx : okC x = true) (hf : 10000 < fuel) :
    ∃ r ok, GsL10Route.P fuel ms x = some (r, ok) ∧ r.length ≤ 10000 ∧ ok = decide (endV ms x ≤ x.arrive) ∧ (ok = true → GiBestRoute.P fuel ms x.from_ x.leave x.to_ = some (r, true) ∧ endF ms r x.from_ x.leave = some (x.to_, endV ms x)) ∧ (ok = false → r = []) := by
  have hc := okC_of hx
  have ha := at_cover hm hx
  obtain ⟨r, ok, b1, b2, b3, b4, b5⟩ := best_both (fuel := fuel) ms hl x.from_ x.leave x.to_ hf
  have e1 := at_spec ms hl x.from_ x.leave x.to_
  obtain ⟨a, b, c, d, e, f, g, h, i⟩ := x
  dsimp only at hc ha b1 b2 b4 b5 e1 ⊢
  simp only [GsL10Route.P, unCover, e1, ha, letK, joinK, appK, iteK_if]
  by_cases he : endV ms ⟨a, b, c, d, e, f, g, h, i⟩ = 10000
  · have h9 : ¬ endV ms ⟨a, b, c, d, e, f, g, h, i⟩ ≤ i := by omega
    exact ⟨[], false, by simp [he, bind2], by simp, by simp [h9], by simp, by simp⟩
  · rw [if_neg he]
    simp only [bind2_some, Bool.not_true, Bool.false_eq_true, if_false]
    by_cases hi : i < endV ms ⟨a, b, c, d, e, f, g, h, i⟩
    · have h9 : ¬ endV ms ⟨a, b, c, d, e, f, g, h, i⟩ ≤ i := by omega
      exact ⟨[], false, by simp [hi], by simp, by simp [h9], by simp, by simp⟩
    · have h9 : endV ms ⟨a, b, c, d, e, f, g, h, i⟩ ≤ i := by omega
      rw [ha, if_neg he] at b4 b5
      dsimp only at b4 b5
      subst b4
      exact ⟨r, true, by simp [hi, b2, bind2], b3, by simp [h9], fun _ => ⟨b1, b5 rfl⟩, by simp⟩
theorem route_both {fuel : Nat} {ms : List Mail} (hl : ms.length ≤ 9223372036854775807) (x : Cover) (hf : 10000 < fuel) :
    ∃ r ok, GiRouteOn.P fuel ms x = some (r, ok) ∧ GsRouteOn.P fuel ms x = some (r, ok) ∧ r.length ≤ 10000 ∧ ok = (goodM ms && okC x && decide (endV ms x ≤ x.arrive)) ∧ (ok = true → endF ms r x.from_ x.leave = some (x.to_, endV ms x)) ∧ (ok = false → r = []) := by
  have e1 := isCover_eq x
  have e2 := l10One_eq x
  have e3 := fun h1 h2 => end_impl (ms := ms) (x := x) h1 h2
  have e4 := fun h1 h2 => route_l10 (fuel := fuel) (ms := ms) hl (x := x) h1 h2 hf
  obtain ⟨a, b, c, d, e, f, g, h, i⟩ := x
  dsimp only at e4 ⊢
  simp only [GiRouteOn.P, GsRouteOn.P, unCover, isTime_eq ms hl, l9Good_eq ms hl, e1, e2, Option.bind_some, letK, joinK, appK, iteK_if]
  cases hm : goodM ms with
  | false => exact ⟨[], false, by simp, by simp, by simp, by simp, by simp, by simp⟩
  | true =>
    cases hc : okC ⟨a, b, c, d, e, f, g, h, i⟩ with
    | false => exact ⟨[], false, by simp, by simp, by simp, by simp, by simp, by simp⟩
    | true =>
      obtain ⟨r, ok, r1, r2, r3, r4, r5⟩ := e4 hm hc
      simp only [Bool.not_true, Bool.false_eq_true, if_false, e3 hm hc, r1, Option.bind_some, bind2_some]
      by_cases hi : i < endV ms ⟨a, b, c, d, e, f, g, h, i⟩
      · have h9 : ¬ endV ms ⟨a, b, c, d, e, f, g, h, i⟩ ≤ i := by omega
        have hok : ok = false := by rw [r3]; simp [h9]
        subst hok
        rw [r5 rfl]
        exact ⟨[], false, by simp [hi], rfl, by simp, by simp [h9], by simp, by simp⟩
      · have h9 : endV ms ⟨a, b, c, d, e, f, g, h, i⟩ ≤ i := by omega
        have hok : ok = true := by rw [r3]; simp [h9]
        subst hok
        obtain ⟨q1, q2⟩ := r4 rfl
        exact ⟨r, true, by simp [hi, q1, bind2], rfl, r2, by simp [h9], fun _ => q2, by simp⟩
end Go.Proofs.Ytlljmgphgmklcaa.Q10Route

/- Chapter 10: covers: the plain functions of the program and of the reference agree, and the laws answer true. (QL10Route) No condition but those of each theorem. -/
namespace Go.Proofs.Ytlljmgphgmklcaa.QL10Route
set_option linter.unusedVariables false
set_option linter.unusedSimpArgs false
open Go.RowKit
open Go.Proofs.Ytlljmgphgmklcaa.GoP Go.Proofs.Ytlljmgphgmklcaa.PlainStamp Go.Proofs.Ytlljmgphgmklcaa.QBase Go.Proofs.Ytlljmgphgmklcaa.Q10Route Go.Proofs.Ytlljmgphgmklcaa.QLoop Go.Proofs.Ytlljmgphgmklcaa.PCover Go.Proofs.Ytlljmgphgmklcaa.PMail Go.Proofs.Ytlljmgphgmklcaa.QHMailE Go.Proofs.Ytlljmgphgmklcaa.QHMail Go.Proofs.Ytlljmgphgmklcaa.QHCoverE Go.Proofs.Ytlljmgphgmklcaa.QInt

theorem law_route {fuel : Nat} (ms : List Mail) (x : Cover) (hl : ms.length ≤ 9223372036854775807) (hf : 10000 < fuel) : GlFnExactRouteOn.P fuel ms x = some true := by
  have ht := QHCoverE.toOne x
  obtain ⟨r, ok, h1, h2, hlen, _⟩ := route_both (fuel := fuel) hl x hf
  obtain ⟨a, b, c, d, e, f, g, h, i⟩ := x
  simp only [GlFnExactRouteOn.P, unCover, QHMailE.szS ms hl, Option.bind_some, letK, iteK_if]
  by_cases hb : ms.length ≤ 1048576
  · rw [if_neg (by rw [if_pos hb]; simp; omega)]
    obtain ⟨v2, l2, hm, hv2⟩ := QHMail.markS ms hb
    have hv3 : ¬ v2 < 0 := by omega
    have hv4 : ¬ (r.length : Int) + 1 < 0 := by omega
    simp [ht, QHMailE.toS ms hb, h1, h2, bind2, joinK, appK, iteK_if, QHMailE.eqS, eqI, hm, hv3, markI r (by omega), heldI r.length (by omega), hv4]
  · rw [if_pos (by rw [if_neg hb]; simp)]
end Go.Proofs.Ytlljmgphgmklcaa.QL10Route

