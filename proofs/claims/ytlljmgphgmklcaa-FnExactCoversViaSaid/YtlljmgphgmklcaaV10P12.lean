/- Texts on which the proofs of several laws stand, one behind the other (12 of 13). No condition of their own. -/
import Derived.Test.YtlljmgphgmklcaaChecked
import Derived.Test.YtlljmgphgmklcaaV10P1
import Derived.Test.YtlljmgphgmklcaaV10P9
import Derived.Test.YtlljmgphgmklcaaV10P11
import Derived.Test.YtlljmgphgmklcaaV10P5
import Derived.WalkKit
import Derived.WalkSpells
import Derived.WalkLawsBesides
import Derived.BigQuiet
import Derived.OwnWalk
import Derived.Deep.LoopGhost
import Derived.Deep.QuietTactic
import Derived.IntWalk
import Derived.Lib.QuietBelow
import Derived.Test.YtlljmgphgmklcaaV10P4
import Derived.Test.YtlljmgphgmklcaaV10P2
import Derived.Test.YtlljmgphgmklcaaV10P3
import Derived.Test.YtlljmgphgmklcaaV10P10
import Derived.Test.YtlljmgphgmklcaaV10P6
import Derived.Test.YtlljmgphgmklcaaV10P7
/- loop.example/g01062/impl.FaultOf as a plain function, and the contract of the program's: where the plain one has an answer, the program has it. Conditions: slices read as lists. -/
namespace Go.Proofs.Ytlljmgphgmklcaa.GiFaultOf
set_option linter.unusedVariables false
set_option linter.unusedSimpArgs false
open Go.RowKit
open Go.Proofs.Ytlljmgphgmklcaa.Rowed Go.Proofs.Ytlljmgphgmklcaa.Turn Go.Proofs.Ytlljmgphgmklcaa.Aid Go.Proofs.Ytlljmgphgmklcaa.GoP Go.Proofs.Ytlljmgphgmklcaa.GoM

def P (rates : (List Go.Proofs.Ytlljmgphgmklcaa.PRate.Rate)) (mails : (List Go.Proofs.Ytlljmgphgmklcaa.PMail.Mail)) (x : Go.Proofs.Ytlljmgphgmklcaa.PCover.Cover) : Option (Int × Bool) :=
  unCover x fun (x_id : Int) (x_day : Int) (x_zone : Int) (x_grams : Int) (x_paid : Int) (x_from_ : Int) (x_to_ : Int) (x_leave : Int) (x_arrive : Int) =>
  Option.bind (Go.Proofs.Ytlljmgphgmklcaa.GiCanCheckCovers.P rates mails) fun (t_5 : Bool) =>
  letK (!t_5) fun (t_6 : Bool) =>
  joinK (fun (t_11 : Bool) =>
  iteK t_11
  (some (0, false))
  (Option.bind (Go.Proofs.Ytlljmgphgmklcaa.GiFaultOn.P rates mails (Go.Proofs.Ytlljmgphgmklcaa.PCover.Cover.mk x_id x_day x_zone x_grams x_paid x_from_ x_to_ x_leave x_arrive)) fun (t_17 : Int) =>
  some (t_17, true))) fun jt_11 => iteK t_6 (appK jt_11 true) (Option.bind (Go.Proofs.Ytlljmgphgmklcaa.GiIsCover.P (Go.Proofs.Ytlljmgphgmklcaa.PCover.Cover.mk x_id x_day x_zone x_grams x_paid x_from_ x_to_ x_leave x_arrive)) fun (t_9 : Bool) =>
  letK (!t_9) fun (t_10 : Bool) =>
  appK jt_11 t_10)

set_option maxRecDepth 100000 in
set_option maxHeartbeats 2000000 in
theorem C (rates : (List Go.Proofs.Ytlljmgphgmklcaa.PRate.Rate)) (mails : (List Go.Proofs.Ytlljmgphgmklcaa.PMail.Mail)) (x : Go.Proofs.Ytlljmgphgmklcaa.PCover.Cover) (A0 : Option Addr) (c0 : Nat) (A1 : Option Addr) (c1 : Nat)  (w : World) (M0 : Hid (Cells w 5 A0 rates.length (Go.Proofs.Ytlljmgphgmklcaa.PRate.flat rates))) (N0 : Hid (rates.length ≤ 9223372036854775807)) (M1 : Hid (Cells w 4 A1 mails.length (Go.Proofs.Ytlljmgphgmklcaa.PMail.flat mails))) (N1 : Hid (mails.length ≤ 9223372036854775807))  {r0 : Int} {r1 : Bool} (H : Hid (P rates mails x = some (r0, r1))) :
    Calls Try.prog 29 #[.slice A0 rates.length c0, .slice A1 mails.length c1, x.val] w (Gives (.tuple #[.int .i64 r0, .bool r1]) w) := by
  have HB := Lib.hid (Below.refl w.heap.size w)
  unfold P at H
  obtain ⟨x_id, x_day, x_zone, x_grams, x_paid, x_from_, x_to_, x_leave, x_arrive⟩ := x
  replace H := unCover_hid H
  unfold Go.Proofs.Ytlljmgphgmklcaa.PCover.Cover.val
  have N0o := N0.out
  have N1o := N1.out
  go_enter Try.func29, Try.ntmps29
  obtain ⟨w_x_0, hw_x_0⟩ : ∃ x, w.alloc (.cells #[.int .i64 x_id, .int .i64 x_day, .int .i64 x_zone, .int .i64 x_grams, .int .i64 x_paid, .int .i64 x_from_, .int .i64 x_to_, .int .i64 x_leave, .int .i64 x_arrive] 25) = x := ⟨_, rfl⟩
  have bw_x_0 : Below w.heap.size w w_x_0 := by rw [← hw_x_0]; exact (Below.refl _ _).alloc (Nat.le_refl _) _
  have HBw_x_0 := Lib.hid (Below.step HB.out bw_x_0)
  clear bw_x_0
  have kx_0_0 : w_x_0.cell? ⟨w.heap.size, 0, none⟩ = some (.int .i64 x_id) := by rw [← hw_x_0]; exact box_new _ _ _ 0 _ rfl
  have kx_0_1 : w_x_0.cell? ⟨w.heap.size, 1, none⟩ = some (.int .i64 x_day) := by rw [← hw_x_0]; exact box_new _ _ _ 1 _ rfl
  have kx_0_2 : w_x_0.cell? ⟨w.heap.size, 2, none⟩ = some (.int .i64 x_zone) := by rw [← hw_x_0]; exact box_new _ _ _ 2 _ rfl
  have kx_0_3 : w_x_0.cell? ⟨w.heap.size, 3, none⟩ = some (.int .i64 x_grams) := by rw [← hw_x_0]; exact box_new _ _ _ 3 _ rfl
  have kx_0_4 : w_x_0.cell? ⟨w.heap.size, 4, none⟩ = some (.int .i64 x_paid) := by rw [← hw_x_0]; exact box_new _ _ _ 4 _ rfl
  have kx_0_5 : w_x_0.cell? ⟨w.heap.size, 5, none⟩ = some (.int .i64 x_from_) := by rw [← hw_x_0]; exact box_new _ _ _ 5 _ rfl
  have kx_0_6 : w_x_0.cell? ⟨w.heap.size, 6, none⟩ = some (.int .i64 x_to_) := by rw [← hw_x_0]; exact box_new _ _ _ 6 _ rfl
  have kx_0_7 : w_x_0.cell? ⟨w.heap.size, 7, none⟩ = some (.int .i64 x_leave) := by rw [← hw_x_0]; exact box_new _ _ _ 7 _ rfl
  have kx_0_8 : w_x_0.cell? ⟨w.heap.size, 8, none⟩ = some (.int .i64 x_arrive) := by rw [← hw_x_0]; exact box_new _ _ _ 8 _ rfl
  replace H := bind_hid H
  obtain ⟨t_5, qt_5, H⟩ := H
  go_wp2_with fail
  go_at_call 94
  refine (Go.Proofs.Ytlljmgphgmklcaa.GiCanCheckCovers.C (rates) (mails) A0 c0 A1 c1 _   (Lib.hid (Cells.below M0.out HBw_x_0.out)) N0 (Lib.hid (Cells.below M1.out HBw_x_0.out)) N1 qt_5).mono ?_
  rintro e_t_5 wt_5 ⟨rfl, bt_5⟩
  have HBwt_5 := Lib.hid (Below.step HBw_x_0.out bt_5)
  replace kx_0_0 := cell_below bt_5 kx_0_0
  replace kx_0_1 := cell_below bt_5 kx_0_1
  replace kx_0_2 := cell_below bt_5 kx_0_2
  replace kx_0_3 := cell_below bt_5 kx_0_3
  replace kx_0_4 := cell_below bt_5 kx_0_4
  replace kx_0_5 := cell_below bt_5 kx_0_5
  replace kx_0_6 := cell_below bt_5 kx_0_6
  replace kx_0_7 := cell_below bt_5 kx_0_7
  replace kx_0_8 := cell_below bt_5 kx_0_8
  clear bt_5
  cases t_5 with
  | false =>
    replace H := let_hid H
    obtain ⟨t_6, ht_6, H⟩ := H
    obtain rfl : t_6 = true := ht_6.symm
    replace H := join_hid H
    replace H := ite_t H
    replace H := app_hid H
    replace H := ite_t H
    cases ret_hid H
    go_wp2_with fail
    go_ret2
    exact ⟨rfl, HBwt_5.out⟩
  | true =>
    replace H := let_hid H
    obtain ⟨t_6, ht_6, H⟩ := H
    obtain rfl : t_6 = false := ht_6.symm
    replace H := join_hid H
    replace H := ite_f H
    replace H := bind_hid H
    obtain ⟨t_9, qt_9, H⟩ := H
    go_wp2_with fail
    go_at_call 18
    refine (Go.Proofs.Ytlljmgphgmklcaa.GiIsCover.C ((Go.Proofs.Ytlljmgphgmklcaa.PCover.Cover.mk x_id x_day x_zone x_grams x_paid x_from_ x_to_ x_leave x_arrive))  _    qt_9).mono ?_
    rintro e_t_9 wt_9 ⟨rfl, bt_9⟩
    have HBwt_9 := Lib.hid (Below.step HBwt_5.out bt_9)
    replace kx_0_0 := cell_below bt_9 kx_0_0
    replace kx_0_1 := cell_below bt_9 kx_0_1
    replace kx_0_2 := cell_below bt_9 kx_0_2
    replace kx_0_3 := cell_below bt_9 kx_0_3
    replace kx_0_4 := cell_below bt_9 kx_0_4
    replace kx_0_5 := cell_below bt_9 kx_0_5
    replace kx_0_6 := cell_below bt_9 kx_0_6
    replace kx_0_7 := cell_below bt_9 kx_0_7
    replace kx_0_8 := cell_below bt_9 kx_0_8
    clear bt_9
    cases t_9 with
    | false =>
      replace H := let_hid H
      obtain ⟨t_10, ht_10, H⟩ := H
      obtain rfl : t_10 = true := ht_10.symm
      replace H := app_hid H
      replace H := ite_t H
      cases ret_hid H
      go_wp2_with fail
      go_ret2
      exact ⟨rfl, HBwt_9.out⟩
    | true =>
      replace H := let_hid H
      obtain ⟨t_10, ht_10, H⟩ := H
      obtain rfl : t_10 = false := ht_10.symm
      replace H := app_hid H
      replace H := ite_f H
      replace H := bind_hid H
      obtain ⟨t_17, qt_17, H⟩ := H
      go_wp2_with fail
      go_at_call 95
      refine (Go.Proofs.Ytlljmgphgmklcaa.GiFaultOn.C (rates) (mails) ((Go.Proofs.Ytlljmgphgmklcaa.PCover.Cover.mk x_id x_day x_zone x_grams x_paid x_from_ x_to_ x_leave x_arrive)) A0 c0 A1 c1 _   (Lib.hid (Cells.below M0.out HBwt_9.out)) N0 (Lib.hid (Cells.below M1.out HBwt_9.out)) N1 qt_17).mono ?_
      rintro e_t_17 wt_17 ⟨rfl, bt_17⟩
      have HBwt_17 := Lib.hid (Below.step HBwt_9.out bt_17)
      replace kx_0_0 := cell_below bt_17 kx_0_0
      replace kx_0_1 := cell_below bt_17 kx_0_1
      replace kx_0_2 := cell_below bt_17 kx_0_2
      replace kx_0_3 := cell_below bt_17 kx_0_3
      replace kx_0_4 := cell_below bt_17 kx_0_4
      replace kx_0_5 := cell_below bt_17 kx_0_5
      replace kx_0_6 := cell_below bt_17 kx_0_6
      replace kx_0_7 := cell_below bt_17 kx_0_7
      replace kx_0_8 := cell_below bt_17 kx_0_8
      clear bt_17
      cases ret_hid H
      go_wp2_with fail
      go_ret2
      exact ⟨rfl, HBwt_17.out⟩
end Go.Proofs.Ytlljmgphgmklcaa.GiFaultOf

/- loop.example/g01062/spec.l10Fault as a plain function, and the contract of the program's: where the plain one has an answer, the program has it. Conditions: slices read as lists. -/
namespace Go.Proofs.Ytlljmgphgmklcaa.GsL10Fault
set_option linter.unusedVariables false
set_option linter.unusedSimpArgs false
open Go.RowKit
open Go.Proofs.Ytlljmgphgmklcaa.Rowed Go.Proofs.Ytlljmgphgmklcaa.Turn Go.Proofs.Ytlljmgphgmklcaa.Aid Go.Proofs.Ytlljmgphgmklcaa.GoP Go.Proofs.Ytlljmgphgmklcaa.GoM

def P (rates : (List Go.Proofs.Ytlljmgphgmklcaa.PRate.Rate)) (mails : (List Go.Proofs.Ytlljmgphgmklcaa.PMail.Mail)) (x : Go.Proofs.Ytlljmgphgmklcaa.PCover.Cover) : Option (Int) :=
  unCover x fun (x_id : Int) (x_day : Int) (x_zone : Int) (x_grams : Int) (x_paid : Int) (x_from_ : Int) (x_to_ : Int) (x_leave : Int) (x_arrive : Int) =>
  Option.bind (Go.Proofs.Ytlljmgphgmklcaa.GsL8For.P rates x_day x_zone x_grams) fun (t_9 : Int) =>
  Option.bind (Go.Proofs.Ytlljmgphgmklcaa.GsL9Times.P mails x_from_ x_leave) fun (t_16 : (List Int)) =>
  Option.bind (idx t_16 x_to_) fun (yt_19 : Int) =>
  letK (t_9 == 0) fun (t_23 : Bool) =>
  iteK t_23
  (some 1)
  (letK (decide (x_paid < t_9)) fun (t_29 : Bool) =>
  iteK t_29
  (some 2)
  (letK (IntKind.i64.wrap (2 * t_9)) fun (t_35 : Int) =>
  letK (decide (t_35 < x_paid)) fun (t_36 : Bool) =>
  iteK t_36
  (some 3)
  (letK (yt_19 == 10000) fun (t_40 : Bool) =>
  iteK t_40
  (some 4)
  (letK (decide (x_arrive < yt_19)) fun (t_46 : Bool) =>
  iteK t_46
  (some 5)
  (some 0)))))

set_option maxRecDepth 100000 in
set_option maxHeartbeats 2000000 in
theorem C (rates : (List Go.Proofs.Ytlljmgphgmklcaa.PRate.Rate)) (mails : (List Go.Proofs.Ytlljmgphgmklcaa.PMail.Mail)) (x : Go.Proofs.Ytlljmgphgmklcaa.PCover.Cover) (A0 : Option Addr) (c0 : Nat) (A1 : Option Addr) (c1 : Nat)  (w : World) (M0 : Hid (Cells w 5 A0 rates.length (Go.Proofs.Ytlljmgphgmklcaa.PRate.flat rates))) (N0 : Hid (rates.length ≤ 9223372036854775807)) (M1 : Hid (Cells w 4 A1 mails.length (Go.Proofs.Ytlljmgphgmklcaa.PMail.flat mails))) (N1 : Hid (mails.length ≤ 9223372036854775807))  {r : Int} (H : Hid (P rates mails x = some r)) :
    Calls Try.prog 91 #[.slice A0 rates.length c0, .slice A1 mails.length c1, x.val] w (Gives (.int .i64 r) w) := by
  have HB := Lib.hid (Below.refl w.heap.size w)
  unfold P at H
  obtain ⟨x_id, x_day, x_zone, x_grams, x_paid, x_from_, x_to_, x_leave, x_arrive⟩ := x
  replace H := unCover_hid H
  unfold Go.Proofs.Ytlljmgphgmklcaa.PCover.Cover.val
  have N0o := N0.out
  have N1o := N1.out
  go_enter Try.func91, Try.ntmps91
  obtain ⟨w_x_0, hw_x_0⟩ : ∃ x, w.alloc (.cells #[.int .i64 x_id, .int .i64 x_day, .int .i64 x_zone, .int .i64 x_grams, .int .i64 x_paid, .int .i64 x_from_, .int .i64 x_to_, .int .i64 x_leave, .int .i64 x_arrive] 25) = x := ⟨_, rfl⟩
  have bw_x_0 : Below w.heap.size w w_x_0 := by rw [← hw_x_0]; exact (Below.refl _ _).alloc (Nat.le_refl _) _
  have HBw_x_0 := Lib.hid (Below.step HB.out bw_x_0)
  clear bw_x_0
  have kx_0_0 : w_x_0.cell? ⟨w.heap.size, 0, none⟩ = some (.int .i64 x_id) := by rw [← hw_x_0]; exact box_new _ _ _ 0 _ rfl
  have kx_0_1 : w_x_0.cell? ⟨w.heap.size, 1, none⟩ = some (.int .i64 x_day) := by rw [← hw_x_0]; exact box_new _ _ _ 1 _ rfl
  have kx_0_2 : w_x_0.cell? ⟨w.heap.size, 2, none⟩ = some (.int .i64 x_zone) := by rw [← hw_x_0]; exact box_new _ _ _ 2 _ rfl
  have kx_0_3 : w_x_0.cell? ⟨w.heap.size, 3, none⟩ = some (.int .i64 x_grams) := by rw [← hw_x_0]; exact box_new _ _ _ 3 _ rfl
  have kx_0_4 : w_x_0.cell? ⟨w.heap.size, 4, none⟩ = some (.int .i64 x_paid) := by rw [← hw_x_0]; exact box_new _ _ _ 4 _ rfl
  have kx_0_5 : w_x_0.cell? ⟨w.heap.size, 5, none⟩ = some (.int .i64 x_from_) := by rw [← hw_x_0]; exact box_new _ _ _ 5 _ rfl
  have kx_0_6 : w_x_0.cell? ⟨w.heap.size, 6, none⟩ = some (.int .i64 x_to_) := by rw [← hw_x_0]; exact box_new _ _ _ 6 _ rfl
  have kx_0_7 : w_x_0.cell? ⟨w.heap.size, 7, none⟩ = some (.int .i64 x_leave) := by rw [← hw_x_0]; exact box_new _ _ _ 7 _ rfl
  have kx_0_8 : w_x_0.cell? ⟨w.heap.size, 8, none⟩ = some (.int .i64 x_arrive) := by rw [← hw_x_0]; exact box_new _ _ _ 8 _ rfl
  replace H := bind_hid H
  obtain ⟨t_9, qt_9, H⟩ := H
  go_wp2_with fail
  go_at_call 100
  refine (Go.Proofs.Ytlljmgphgmklcaa.GsL8For.C (rates) (x_day) (x_zone) (x_grams) A0 c0 _   (Lib.hid (Cells.below M0.out HBw_x_0.out)) N0 qt_9).mono ?_
  rintro e_t_9 wt_9 ⟨rfl, bt_9⟩
  have HBwt_9 := Lib.hid (Below.step HBw_x_0.out bt_9)
  replace kx_0_0 := cell_below bt_9 kx_0_0
  replace kx_0_1 := cell_below bt_9 kx_0_1
  replace kx_0_2 := cell_below bt_9 kx_0_2
  replace kx_0_3 := cell_below bt_9 kx_0_3
  replace kx_0_4 := cell_below bt_9 kx_0_4
  replace kx_0_5 := cell_below bt_9 kx_0_5
  replace kx_0_6 := cell_below bt_9 kx_0_6
  replace kx_0_7 := cell_below bt_9 kx_0_7
  replace kx_0_8 := cell_below bt_9 kx_0_8
  clear bt_9
  go_wp2_with fail
  have bd2 : Below wt_9.heap.size wt_9 wt_9.drew := (Below.refl _ _).drew
  have HBwt_9.drew := Lib.hid (Below.step HBwt_9.out bd2)
  replace kx_0_0 := cell_below bd2 kx_0_0
  replace kx_0_1 := cell_below bd2 kx_0_1
  replace kx_0_2 := cell_below bd2 kx_0_2
  replace kx_0_3 := cell_below bd2 kx_0_3
  replace kx_0_4 := cell_below bd2 kx_0_4
  replace kx_0_5 := cell_below bd2 kx_0_5
  replace kx_0_6 := cell_below bd2 kx_0_6
  replace kx_0_7 := cell_below bd2 kx_0_7
  replace kx_0_8 := cell_below bd2 kx_0_8
  clear bd2
  replace H := bind_hid H
  obtain ⟨t_16, qt_16, H⟩ := H
  replace H := idx_hid H
  obtain ⟨nt_19, yt_19, et_19, lt_19, gt_19, H⟩ := H
  subst et_19
  refine wp_region_held_drew (S := fun w' => w'.cell? ⟨w.heap.size, 0, none⟩ = some (.int .i64 x_id) ∧ w'.cell? ⟨w.heap.size, 1, none⟩ = some (.int .i64 x_day) ∧ w'.cell? ⟨w.heap.size, 2, none⟩ = some (.int .i64 x_zone) ∧ w'.cell? ⟨w.heap.size, 3, none⟩ = some (.int .i64 x_grams) ∧ w'.cell? ⟨w.heap.size, 4, none⟩ = some (.int .i64 x_paid) ∧ w'.cell? ⟨w.heap.size, 5, none⟩ = some (.int .i64 x_from_) ∧ w'.cell? ⟨w.heap.size, 6, none⟩ = some (.int .i64 (nt_19 : Int)) ∧ w'.cell? ⟨w.heap.size, 7, none⟩ = some (.int .i64 x_leave) ∧ w'.cell? ⟨w.heap.size, 8, none⟩ = some (.int .i64 x_arrive) ∧ Hid (0 ≤ w'.heap.size)) (by kernel_rfl) ⟨kx_0_0, kx_0_1, kx_0_2, kx_0_3, kx_0_4, kx_0_5, kx_0_6, kx_0_7, kx_0_8, Lib.hid (Nat.zero_le _)⟩ (fun hHeld => ?_)
  refine wpAnyH_take (i := 0) (oi := _) (v := ?_) rfl (by kernel_rfl) (by kernel_rfl) (by kernel_rfl) (fun _ _ _ h => h) (Or.inl ⟨by rfl, ?_⟩) (by assumption) ?_
  rotate_left
  · intro w hSw
    (try dsimp only at hSw)
    (try simp only [List.getElem_toArray, List.getElem_cons_zero, List.getElem_cons_succ])
    go_simp
    (try with_reducible rfl)
  try simp only [Act.put, List.getElem_toArray, List.getElem_cons_zero, List.getElem_cons_succ, List.setIfInBounds_toArray, List.set_cons_zero, List.set_cons_succ]
  refine wpAnyH_take (i := 1) (oi := _) (v := ?_) rfl (by kernel_rfl) (by kernel_rfl) (by kernel_rfl) (fun _ _ _ h => h) (Or.inl ⟨by rfl, ?_⟩) (by assumption) ?_
  rotate_left
  · intro w hSw
    (try dsimp only at hSw)
    (try simp only [List.getElem_toArray, List.getElem_cons_zero, List.getElem_cons_succ])
    go_simp
    (try with_reducible rfl)
  try simp only [Act.put, List.getElem_toArray, List.getElem_cons_zero, List.getElem_cons_succ, List.setIfInBounds_toArray, List.set_cons_zero, List.set_cons_succ]
  refine wpAnyH_take (i := 2) (oi := _) (v := ?_) rfl (by kernel_rfl) (by kernel_rfl) (by kernel_rfl) (fun _ _ _ h => h) (Or.inl ⟨by rfl, ?_⟩) (by assumption) ?_
  rotate_left
  · intro w hSw
    (try dsimp only at hSw)
    (try simp only [List.getElem_toArray, List.getElem_cons_zero, List.getElem_cons_succ])
    go_simp
    (try with_reducible rfl)
  try simp only [Act.put, List.getElem_toArray, List.getElem_cons_zero, List.getElem_cons_succ, List.setIfInBounds_toArray, List.set_cons_zero, List.set_cons_succ]
  refine wpAnyH_take (i := 3) (oi := _) (v := ?_) rfl (by kernel_rfl) (by kernel_rfl) (by kernel_rfl) (fun _ _ _ h => h) (Or.inl ⟨by rfl, ?_⟩) (by assumption) ?_
  rotate_left
  · intro w hSw
    (try dsimp only at hSw)
    (try simp only [List.getElem_toArray, List.getElem_cons_zero, List.getElem_cons_succ])
    go_simp
    (try with_reducible rfl)
  try simp only [Act.put, List.getElem_toArray, List.getElem_cons_zero, List.getElem_cons_succ, List.setIfInBounds_toArray, List.set_cons_zero, List.set_cons_succ]
  refine wpAnyH_take (i := 4) (oi := _) (v := ?_) rfl (by kernel_rfl) (by kernel_rfl) (by kernel_rfl) (fun _ _ _ h => h) (Or.inl ⟨by rfl, ?_⟩) (by assumption) ?_
  rotate_left
  · intro w hSw
    (try dsimp only at hSw)
    (try simp only [List.getElem_toArray, List.getElem_cons_zero, List.getElem_cons_succ])
    go_simp
    (try with_reducible rfl)
  try simp only [Act.put, List.getElem_toArray, List.getElem_cons_zero, List.getElem_cons_succ, List.setIfInBounds_toArray, List.set_cons_zero, List.set_cons_succ]
  refine wpAnyH_take (i := 6) (oi := _) (v := ?_) rfl (by kernel_rfl) (by kernel_rfl) (by kernel_rfl) (fun _ _ _ h => h) (Or.inl ⟨by rfl, ?_⟩) (by assumption) ?_
  rotate_left
  · intro w hSw
    (try dsimp only at hSw)
    (try simp only [List.getElem_toArray, List.getElem_cons_zero, List.getElem_cons_succ])
    go_simp
    (try with_reducible rfl)
  try simp only [Act.put, List.getElem_toArray, List.getElem_cons_zero, List.getElem_cons_succ, List.setIfInBounds_toArray, List.set_cons_zero, List.set_cons_succ]
  refine wpAnyH_take (i := 7) (oi := _) (v := ?_) rfl (by kernel_rfl) (by kernel_rfl) (by kernel_rfl) (fun _ _ _ h => h) (Or.inl ⟨by rfl, ?_⟩) (by assumption) ?_
  rotate_left
  · intro w hSw
    (try dsimp only at hSw)
    (try simp only [List.getElem_toArray, List.getElem_cons_zero, List.getElem_cons_succ])
    go_simp
    (try with_reducible rfl)
  try simp only [Act.put, List.getElem_toArray, List.getElem_cons_zero, List.getElem_cons_succ, List.setIfInBounds_toArray, List.set_cons_zero, List.set_cons_succ]
  refine wpAnyH_ready (rs := [5]) (by kernel_rfl) (by simp) ?_
  refine AllReadyH.cons (o := _) rfl (fun K_ hK_ => ?_) AllReadyH.nil
  (try simp only [List.getElem_toArray, List.getElem_cons_zero, List.getElem_cons_succ])
  go_simp
  go_at_call 145
  refine (Go.Proofs.Ytlljmgphgmklcaa.GsL9Times.C (mails) (x_from_) (x_leave) A1 c1 _   (Lib.hid (Cells.below M1.out HBwt_9.drew.out)) N1 qt_16).mono ?_
  rintro e_t_16 wt_16 ⟨At_16, ct_16, rfl, ot_16, bt_16⟩
  have Dt_16_x_0 := Lib.hid (apart_callbox ot_16 kx_0_0)
  have Ot_16 := Lib.hid (own_lower ot_16 HBwt_9.drew.out.size)
  clear ot_16
  have HBwt_16 := Lib.hid (Below.step HBwt_9.drew.out bt_16)
  replace kx_0_0 := cell_below bt_16 kx_0_0
  replace kx_0_1 := cell_below bt_16 kx_0_1
  replace kx_0_2 := cell_below bt_16 kx_0_2
  replace kx_0_3 := cell_below bt_16 kx_0_3
  replace kx_0_4 := cell_below bt_16 kx_0_4
  replace kx_0_5 := cell_below bt_16 kx_0_5
  replace kx_0_6 := cell_below bt_16 kx_0_6
  replace kx_0_7 := cell_below bt_16 kx_0_7
  replace kx_0_8 := cell_below bt_16 kx_0_8
  clear bt_16
  clear qt_16
  first | refine hK_.out _ _ ⟨kx_0_0, kx_0_1, kx_0_2, kx_0_3, kx_0_4, kx_0_5, kx_0_6, kx_0_7, kx_0_8, Lib.hid (Nat.zero_le _)⟩ (fun hHeld => ?_) | (go_wp2_with fail; refine hK_.out _ _ ⟨kx_0_0, kx_0_1, kx_0_2, kx_0_3, kx_0_4, kx_0_5, kx_0_6, kx_0_7, kx_0_8, Lib.hid (Nat.zero_le _)⟩ (fun hHeld => ?_))
  clear hK_ K_
  try simp only [Act.put, List.getElem_toArray, List.getElem_cons_zero, List.getElem_cons_succ, List.setIfInBounds_toArray, List.set_cons_zero, List.set_cons_succ]
  obtain ⟨qt_19, Qt_19⟩ := own_some Ot_16.out (by omega)
  subst Qt_19
  obtain ⟨ab_t_19, ao_t_19, zt_19, At_19, z_t_19, ct_19_0⟩ := Go.Proofs.Ytlljmgphgmklcaa.HelpInt.Ints.at_ (own_cells Ot_16.out) (k := nt_19) (by omega)
  obtain rfl := Option.some.inj (gt_19.out.symm.trans z_t_19)
  simp only [Option.some.injEq, Addr.mk.injEq] at At_19
  obtain ⟨rfl, rfl, _⟩ := At_19
  clear z_t_19
  simp only [Nat.zero_add] at ct_19_0
  have b0t_19 : (0 : Int) ≤ (nt_19 : Int) := by omega
  have b1t_19 : (nt_19 : Int) < ((t_16.length : Nat) : Int) := by omega
  have b2t_19 : ((nt_19 : Int)).toNat = nt_19 := by omega
  refine wpAnyH_take (i := 8) (oi := _) (v := ?_) rfl (by kernel_rfl) (by kernel_rfl) (by kernel_rfl) (fun _ _ _ h => h) (Or.inl ⟨by rfl, ?_⟩) (by assumption) ?_
  rotate_left
  · intro w hSw
    (try dsimp only at hSw)
    (try simp only [List.getElem_toArray, List.getElem_cons_zero, List.getElem_cons_succ])
    go_simp
    (try with_reducible rfl)
  try simp only [Act.put, List.getElem_toArray, List.getElem_cons_zero, List.getElem_cons_succ, List.setIfInBounds_toArray, List.set_cons_zero, List.set_cons_succ]
  refine Go.Proofs.Ytlljmgphgmklcaa.GoR.wpAnyH_more (S' := fun w' => w'.cell? ⟨w.heap.size, 0, none⟩ = some (.int .i64 x_id) ∧ w'.cell? ⟨w.heap.size, 1, none⟩ = some (.int .i64 x_day) ∧ w'.cell? ⟨w.heap.size, 2, none⟩ = some (.int .i64 x_zone) ∧ w'.cell? ⟨w.heap.size, 3, none⟩ = some (.int .i64 x_grams) ∧ w'.cell? ⟨w.heap.size, 4, none⟩ = some (.int .i64 x_paid) ∧ w'.cell? ⟨w.heap.size, 5, none⟩ = some (.int .i64 x_from_) ∧ w'.cell? ⟨w.heap.size, 6, none⟩ = some (.int .i64 (nt_19 : Int)) ∧ w'.cell? ⟨w.heap.size, 7, none⟩ = some (.int .i64 x_leave) ∧ w'.cell? ⟨w.heap.size, 8, none⟩ = some (.int .i64 x_arrive) ∧ w'.cell? ⟨qt_19, nt_19, none⟩ = some (.int .i64 yt_19) ∧ Hid (0 ≤ w'.heap.size)) (fun w' hS_ => ?_) _ _ _ _ ?_
  · go_split_ands; (repeat' apply And.intro) <;> first | assumption | exact Lib.hid (Nat.zero_le _)
  have hHeld : (fun w' => w'.cell? ⟨w.heap.size, 0, none⟩ = some (.int .i64 x_id) ∧ w'.cell? ⟨w.heap.size, 1, none⟩ = some (.int .i64 x_day) ∧ w'.cell? ⟨w.heap.size, 2, none⟩ = some (.int .i64 x_zone) ∧ w'.cell? ⟨w.heap.size, 3, none⟩ = some (.int .i64 x_grams) ∧ w'.cell? ⟨w.heap.size, 4, none⟩ = some (.int .i64 x_paid) ∧ w'.cell? ⟨w.heap.size, 5, none⟩ = some (.int .i64 x_from_) ∧ w'.cell? ⟨w.heap.size, 6, none⟩ = some (.int .i64 (nt_19 : Int)) ∧ w'.cell? ⟨w.heap.size, 7, none⟩ = some (.int .i64 x_leave) ∧ w'.cell? ⟨w.heap.size, 8, none⟩ = some (.int .i64 x_arrive) ∧ w'.cell? ⟨qt_19, nt_19, none⟩ = some (.int .i64 yt_19) ∧ Hid (0 ≤ w'.heap.size)) wt_16 := ⟨kx_0_0, kx_0_1, kx_0_2, kx_0_3, kx_0_4, kx_0_5, kx_0_6, kx_0_7, kx_0_8, ct_19_0, Lib.hid (Nat.zero_le _)⟩
  refine wpAnyH_take (i := 9) (oi := _) (v := ?_) rfl (by kernel_rfl) (by kernel_rfl) (by kernel_rfl) (fun _ _ _ h => h) (Or.inl ⟨by rfl, ?_⟩) (by assumption) ?_
  rotate_left
  · intro w hSw
    (try dsimp only at hSw)
    (try simp only [List.getElem_toArray, List.getElem_cons_zero, List.getElem_cons_succ])
    go_simp
    (try with_reducible rfl)
  try simp only [Act.put, List.getElem_toArray, List.getElem_cons_zero, List.getElem_cons_succ, List.setIfInBounds_toArray, List.set_cons_zero, List.set_cons_succ]
  refine wpAnyH_take (i := 10) (oi := _) (v := ?_) rfl (by kernel_rfl) (by kernel_rfl) (by kernel_rfl) (fun _ _ _ h => h) (Or.inl ⟨by rfl, ?_⟩) (by assumption) ?_
  rotate_left
  · intro w hSw
    (try dsimp only at hSw)
    (try simp only [List.getElem_toArray, List.getElem_cons_zero, List.getElem_cons_succ])
    go_simp
    (try with_reducible rfl)
  try simp only [Act.put, List.getElem_toArray, List.getElem_cons_zero, List.getElem_cons_succ, List.setIfInBounds_toArray, List.set_cons_zero, List.set_cons_succ]
  refine wpAnyH_done (by kernel_rfl) ?_ _
  replace H := let_hid H
  obtain ⟨t_23, ht_23, H⟩ := H
  cases t_23 with
  | false =>
    replace H := ite_f H
    replace H := let_hid H
    obtain ⟨t_29, ht_29, H⟩ := H
    cases t_29 with
    | false =>
      replace H := ite_f H
      replace H := let_hid H
      obtain ⟨t_35, ht_35, H⟩ := H
      replace H := let_hid H
      obtain ⟨t_36, ht_36, H⟩ := H
      cases t_36 with
      | false =>
        replace H := ite_f H
        replace H := let_hid H
        obtain ⟨t_40, ht_40, H⟩ := H
        cases t_40 with
        | false =>
          replace H := ite_f H
          replace H := let_hid H
          obtain ⟨t_46, ht_46, H⟩ := H
          cases t_46 with
          | false =>
            replace H := ite_f H
            obtain rfl := ret_hid H
            go_wp2_with fail
            go_ret
            exact ⟨rfl, HBwt_16.out⟩
          | true =>
            replace H := ite_t H
            obtain rfl := ret_hid H
            go_wp2_with fail
            go_ret
            exact ⟨rfl, HBwt_16.out⟩
        | true =>
          replace H := ite_t H
          obtain rfl := ret_hid H
          go_wp2_with fail
          go_ret
          exact ⟨rfl, HBwt_16.out⟩
      | true =>
        replace H := ite_t H
        obtain rfl := ret_hid H
        go_wp2_with fail
        go_ret
        exact ⟨rfl, HBwt_16.out⟩
    | true =>
      replace H := ite_t H
      obtain rfl := ret_hid H
      go_wp2_with fail
      go_ret
      exact ⟨rfl, HBwt_16.out⟩
  | true =>
    replace H := ite_t H
    obtain rfl := ret_hid H
    go_wp2_with fail
    go_ret
    exact ⟨rfl, HBwt_16.out⟩
end Go.Proofs.Ytlljmgphgmklcaa.GsL10Fault

/- loop.example/g01062/spec.FaultOf as a plain function, and the contract of the program's: where the plain one has an answer, the program has it. Conditions: slices read as lists. -/
namespace Go.Proofs.Ytlljmgphgmklcaa.GsFaultOf
set_option linter.unusedVariables false
set_option linter.unusedSimpArgs false
open Go.RowKit
open Go.Proofs.Ytlljmgphgmklcaa.Rowed Go.Proofs.Ytlljmgphgmklcaa.Turn Go.Proofs.Ytlljmgphgmklcaa.Aid Go.Proofs.Ytlljmgphgmklcaa.GoP Go.Proofs.Ytlljmgphgmklcaa.GoM

def P (fuel : Nat) (rates : (List Go.Proofs.Ytlljmgphgmklcaa.PRate.Rate)) (mails : (List Go.Proofs.Ytlljmgphgmklcaa.PMail.Mail)) (x : Go.Proofs.Ytlljmgphgmklcaa.PCover.Cover) : Option (Int × Bool) :=
  unCover x fun (x_id : Int) (x_day : Int) (x_zone : Int) (x_grams : Int) (x_paid : Int) (x_from_ : Int) (x_to_ : Int) (x_leave : Int) (x_arrive : Int) =>
  Option.bind (Go.Proofs.Ytlljmgphgmklcaa.GsL8Good.P fuel rates) fun (t_4 : Bool) =>
  letK (!t_4) fun (t_5 : Bool) =>
  joinK (fun (t_10 : Bool) =>
  joinK (fun (t_15 : Bool) =>
  iteK t_15
  (some (0, false))
  (Option.bind (Go.Proofs.Ytlljmgphgmklcaa.GsL10Fault.P rates mails (Go.Proofs.Ytlljmgphgmklcaa.PCover.Cover.mk x_id x_day x_zone x_grams x_paid x_from_ x_to_ x_leave x_arrive)) fun (t_21 : Int) =>
  some (t_21, true))) fun jt_15 => iteK t_10 (appK jt_15 true) (Option.bind (Go.Proofs.Ytlljmgphgmklcaa.GsL10One.P (Go.Proofs.Ytlljmgphgmklcaa.PCover.Cover.mk x_id x_day x_zone x_grams x_paid x_from_ x_to_ x_leave x_arrive)) fun (t_13 : Bool) =>
  letK (!t_13) fun (t_14 : Bool) =>
  appK jt_15 t_14)) fun jt_10 => iteK t_5 (appK jt_10 true) (Option.bind (Go.Proofs.Ytlljmgphgmklcaa.GsL9Good.P mails) fun (t_8 : Bool) =>
  letK (!t_8) fun (t_9 : Bool) =>
  appK jt_10 t_9)

set_option maxRecDepth 100000 in
set_option maxHeartbeats 2000000 in
theorem C (fuel : Nat) (rates : (List Go.Proofs.Ytlljmgphgmklcaa.PRate.Rate)) (mails : (List Go.Proofs.Ytlljmgphgmklcaa.PMail.Mail)) (x : Go.Proofs.Ytlljmgphgmklcaa.PCover.Cover) (A0 : Option Addr) (c0 : Nat) (A1 : Option Addr) (c1 : Nat)  (w : World) (M0 : Hid (Cells w 5 A0 rates.length (Go.Proofs.Ytlljmgphgmklcaa.PRate.flat rates))) (N0 : Hid (rates.length ≤ 9223372036854775807)) (M1 : Hid (Cells w 4 A1 mails.length (Go.Proofs.Ytlljmgphgmklcaa.PMail.flat mails))) (N1 : Hid (mails.length ≤ 9223372036854775807))  {r0 : Int} {r1 : Bool} (H : Hid (P fuel rates mails x = some (r0, r1))) :
    Calls Try.prog 26 #[.slice A0 rates.length c0, .slice A1 mails.length c1, x.val] w (Gives (.tuple #[.int .i64 r0, .bool r1]) w) := by
  have HB := Lib.hid (Below.refl w.heap.size w)
  unfold P at H
  obtain ⟨x_id, x_day, x_zone, x_grams, x_paid, x_from_, x_to_, x_leave, x_arrive⟩ := x
  replace H := unCover_hid H
  unfold Go.Proofs.Ytlljmgphgmklcaa.PCover.Cover.val
  have N0o := N0.out
  have N1o := N1.out
  go_enter Try.func26, Try.ntmps26
  obtain ⟨w_x_0, hw_x_0⟩ : ∃ x, w.alloc (.cells #[.int .i64 x_id, .int .i64 x_day, .int .i64 x_zone, .int .i64 x_grams, .int .i64 x_paid, .int .i64 x_from_, .int .i64 x_to_, .int .i64 x_leave, .int .i64 x_arrive] 25) = x := ⟨_, rfl⟩
  have bw_x_0 : Below w.heap.size w w_x_0 := by rw [← hw_x_0]; exact (Below.refl _ _).alloc (Nat.le_refl _) _
  have HBw_x_0 := Lib.hid (Below.step HB.out bw_x_0)
  clear bw_x_0
  have kx_0_0 : w_x_0.cell? ⟨w.heap.size, 0, none⟩ = some (.int .i64 x_id) := by rw [← hw_x_0]; exact box_new _ _ _ 0 _ rfl
  have kx_0_1 : w_x_0.cell? ⟨w.heap.size, 1, none⟩ = some (.int .i64 x_day) := by rw [← hw_x_0]; exact box_new _ _ _ 1 _ rfl
  have kx_0_2 : w_x_0.cell? ⟨w.heap.size, 2, none⟩ = some (.int .i64 x_zone) := by rw [← hw_x_0]; exact box_new _ _ _ 2 _ rfl
  have kx_0_3 : w_x_0.cell? ⟨w.heap.size, 3, none⟩ = some (.int .i64 x_grams) := by rw [← hw_x_0]; exact box_new _ _ _ 3 _ rfl
  have kx_0_4 : w_x_0.cell? ⟨w.heap.size, 4, none⟩ = some (.int .i64 x_paid) := by rw [← hw_x_0]; exact box_new _ _ _ 4 _ rfl
  have kx_0_5 : w_x_0.cell? ⟨w.heap.size, 5, none⟩ = some (.int .i64 x_from_) := by rw [← hw_x_0]; exact box_new _ _ _ 5 _ rfl
  have kx_0_6 : w_x_0.cell? ⟨w.heap.size, 6, none⟩ = some (.int .i64 x_to_) := by rw [← hw_x_0]; exact box_new _ _ _ 6 _ rfl
  have kx_0_7 : w_x_0.cell? ⟨w.heap.size, 7, none⟩ = some (.int .i64 x_leave) := by rw [← hw_x_0]; exact box_new _ _ _ 7 _ rfl
  have kx_0_8 : w_x_0.cell? ⟨w.heap.size, 8, none⟩ = some (.int .i64 x_arrive) := by rw [← hw_x_0]; exact box_new _ _ _ 8 _ rfl
  replace H := bind_hid H
  obtain ⟨t_4, qt_4, H⟩ := H
  go_wp2_with fail
  go_at_call 89
  refine (Go.Proofs.Ytlljmgphgmklcaa.GsL8Good.C fuel (rates) A0 c0 _   (Lib.hid (Cells.below M0.out HBw_x_0.out)) N0 qt_4).mono ?_
  rintro e_t_4 wt_4 ⟨rfl, bt_4⟩
  have HBwt_4 := Lib.hid (Below.step HBw_x_0.out bt_4)
  replace kx_0_0 := cell_below bt_4 kx_0_0
  replace kx_0_1 := cell_below bt_4 kx_0_1
  replace kx_0_2 := cell_below bt_4 kx_0_2
  replace kx_0_3 := cell_below bt_4 kx_0_3
  replace kx_0_4 := cell_below bt_4 kx_0_4
  replace kx_0_5 := cell_below bt_4 kx_0_5
  replace kx_0_6 := cell_below bt_4 kx_0_6
  replace kx_0_7 := cell_below bt_4 kx_0_7
  replace kx_0_8 := cell_below bt_4 kx_0_8
  clear bt_4
  cases t_4 with
  | false =>
    replace H := let_hid H
    obtain ⟨t_5, ht_5, H⟩ := H
    obtain rfl : t_5 = true := ht_5.symm
    replace H := join_hid H
    replace H := ite_t H
    replace H := app_hid H
    replace H := join_hid H
    replace H := ite_t H
    replace H := app_hid H
    replace H := ite_t H
    cases ret_hid H
    go_wp2_with fail
    go_ret2
    exact ⟨rfl, HBwt_4.out⟩
  | true =>
    replace H := let_hid H
    obtain ⟨t_5, ht_5, H⟩ := H
    obtain rfl : t_5 = false := ht_5.symm
    replace H := join_hid H
    replace H := ite_f H
    replace H := bind_hid H
    obtain ⟨t_8, qt_8, H⟩ := H
    go_wp2_with fail
    go_at_call 90
    refine (Go.Proofs.Ytlljmgphgmklcaa.GsL9Good.C (mails) A1 c1 _   (Lib.hid (Cells.below M1.out HBwt_4.out)) N1 qt_8).mono ?_
    rintro e_t_8 wt_8 ⟨rfl, bt_8⟩
    have HBwt_8 := Lib.hid (Below.step HBwt_4.out bt_8)
    replace kx_0_0 := cell_below bt_8 kx_0_0
    replace kx_0_1 := cell_below bt_8 kx_0_1
    replace kx_0_2 := cell_below bt_8 kx_0_2
    replace kx_0_3 := cell_below bt_8 kx_0_3
    replace kx_0_4 := cell_below bt_8 kx_0_4
    replace kx_0_5 := cell_below bt_8 kx_0_5
    replace kx_0_6 := cell_below bt_8 kx_0_6
    replace kx_0_7 := cell_below bt_8 kx_0_7
    replace kx_0_8 := cell_below bt_8 kx_0_8
    clear bt_8
    cases t_8 with
    | false =>
      replace H := let_hid H
      obtain ⟨t_9, ht_9, H⟩ := H
      obtain rfl : t_9 = true := ht_9.symm
      replace H := app_hid H
      replace H := join_hid H
      replace H := ite_t H
      replace H := app_hid H
      replace H := ite_t H
      cases ret_hid H
      go_wp2_with fail
      go_ret2
      exact ⟨rfl, HBwt_8.out⟩
    | true =>
      replace H := let_hid H
      obtain ⟨t_9, ht_9, H⟩ := H
      obtain rfl : t_9 = false := ht_9.symm
      replace H := app_hid H
      replace H := join_hid H
      replace H := ite_f H
      replace H := bind_hid H
      obtain ⟨t_13, qt_13, H⟩ := H
      go_wp2_with fail
      go_at_call 77
      refine (Go.Proofs.Ytlljmgphgmklcaa.GsL10One.C ((Go.Proofs.Ytlljmgphgmklcaa.PCover.Cover.mk x_id x_day x_zone x_grams x_paid x_from_ x_to_ x_leave x_arrive))  _    qt_13).mono ?_
      rintro e_t_13 wt_13 ⟨rfl, bt_13⟩
      have HBwt_13 := Lib.hid (Below.step HBwt_8.out bt_13)
      replace kx_0_0 := cell_below bt_13 kx_0_0
      replace kx_0_1 := cell_below bt_13 kx_0_1
      replace kx_0_2 := cell_below bt_13 kx_0_2
      replace kx_0_3 := cell_below bt_13 kx_0_3
      replace kx_0_4 := cell_below bt_13 kx_0_4
      replace kx_0_5 := cell_below bt_13 kx_0_5
      replace kx_0_6 := cell_below bt_13 kx_0_6
      replace kx_0_7 := cell_below bt_13 kx_0_7
      replace kx_0_8 := cell_below bt_13 kx_0_8
      clear bt_13
      cases t_13 with
      | false =>
        replace H := let_hid H
        obtain ⟨t_14, ht_14, H⟩ := H
        obtain rfl : t_14 = true := ht_14.symm
        replace H := app_hid H
        replace H := ite_t H
        cases ret_hid H
        go_wp2_with fail
        go_ret2
        exact ⟨rfl, HBwt_13.out⟩
      | true =>
        replace H := let_hid H
        obtain ⟨t_14, ht_14, H⟩ := H
        obtain rfl : t_14 = false := ht_14.symm
        replace H := app_hid H
        replace H := ite_f H
        replace H := bind_hid H
        obtain ⟨t_21, qt_21, H⟩ := H
        go_wp2_with fail
        go_at_call 91
        refine (Go.Proofs.Ytlljmgphgmklcaa.GsL10Fault.C (rates) (mails) ((Go.Proofs.Ytlljmgphgmklcaa.PCover.Cover.mk x_id x_day x_zone x_grams x_paid x_from_ x_to_ x_leave x_arrive)) A0 c0 A1 c1 _   (Lib.hid (Cells.below M0.out HBwt_13.out)) N0 (Lib.hid (Cells.below M1.out HBwt_13.out)) N1 qt_21).mono ?_
        rintro e_t_21 wt_21 ⟨rfl, bt_21⟩
        have HBwt_21 := Lib.hid (Below.step HBwt_13.out bt_21)
        replace kx_0_0 := cell_below bt_21 kx_0_0
        replace kx_0_1 := cell_below bt_21 kx_0_1
        replace kx_0_2 := cell_below bt_21 kx_0_2
        replace kx_0_3 := cell_below bt_21 kx_0_3
        replace kx_0_4 := cell_below bt_21 kx_0_4
        replace kx_0_5 := cell_below bt_21 kx_0_5
        replace kx_0_6 := cell_below bt_21 kx_0_6
        replace kx_0_7 := cell_below bt_21 kx_0_7
        replace kx_0_8 := cell_below bt_21 kx_0_8
        clear bt_21
        cases ret_hid H
        go_wp2_with fail
        go_ret2
        exact ⟨rfl, HBwt_21.out⟩
end Go.Proofs.Ytlljmgphgmklcaa.GsFaultOf

/- Chapter 10: covers: the plain functions of the program and of the reference agree, and the laws answer true. (Q10Fault) No condition but those of each theorem. -/
namespace Go.Proofs.Ytlljmgphgmklcaa.Q10Fault
set_option linter.unusedVariables false
set_option linter.unusedSimpArgs false
open Go.RowKit
open Go.Proofs.Ytlljmgphgmklcaa.GoP Go.Proofs.Ytlljmgphgmklcaa.PlainStamp Go.Proofs.Ytlljmgphgmklcaa.QBase Go.Proofs.Ytlljmgphgmklcaa.Q10Cover Go.Proofs.Ytlljmgphgmklcaa.Q8For Go.Proofs.Ytlljmgphgmklcaa.Q8List Go.Proofs.Ytlljmgphgmklcaa.Q8Rate Go.Proofs.Ytlljmgphgmklcaa.Q9Early Go.Proofs.Ytlljmgphgmklcaa.Q9Dual Go.Proofs.Ytlljmgphgmklcaa.Q9Arr Go.Proofs.Ytlljmgphgmklcaa.Q9List Go.Proofs.Ytlljmgphgmklcaa.QLoop Go.Proofs.Ytlljmgphgmklcaa.PCover Go.Proofs.Ytlljmgphgmklcaa.PRate Go.Proofs.Ytlljmgphgmklcaa.PMail Go.Proofs.Ytlljmgphgmklcaa.PIntA10

def endV (ms : List Mail) (x : Cover) : Int := at_ (earlyM ms x.from_ x.leave) x.to_
def rateC (rs : List Rate) (x : Cover) : Int := rateV rs x.day x.zone x.grams
def faultV (rs : List Rate) (ms : List Mail) (x : Cover) : Int :=
  if rateC rs x = 0 then 1 else if x.paid < rateC rs x then 2 else if 2 * rateC rs x < x.paid then 3 else if endV ms x = 10000 then 4 else if x.arrive < endV ms x then 5 else 0
theorem fault_range (rs : List Rate) (ms : List Mail) (x : Cover) : 0 ≤ faultV rs ms x ∧ faultV rs ms x ≤ 5 := by
  unfold faultV; repeat' split
  all_goals omega
theorem rateC_le {rs : List Rate} (h : okRs rs = true) (x : Cover) : 0 ≤ rateC rs x ∧ rateC rs x ≤ 9999 := by
  refine ⟨rateV_nonneg h _ _ _, ?_⟩
  unfold rateC rateV
  cases hf : rs.find? (onB x.day x.zone x.grams) with
  | none => simp
  | some r => have := okR_of (rs_mem h (List.mem_of_find?_eq_some hf)); dsimp only; omega
theorem fault_impl {rs : List Rate} {ms : List Mail} {x : Cover} (hr : okRs rs = true) (hm : goodM ms = true) (hx : okC x = true) : GiFaultOn.P rs ms x = some (faultV rs ms x) := by
  have hc := okC_of hx
  have hrt := rateC_le hr x
  have he : GiEarliestEnd.P ms x = some (endV ms x) := by
    obtain ⟨a, b, c, d, e, f, g, h, i⟩ := x
    dsimp only at hc
    simp only [GiEarliestEnd.P, unCover, earliest_eq hm hc.2.2.2.1, Option.bind_some, un_eq, letK, ten (early_len ms f h), idx_at (early_len ms f h) hc.2.2.2.2.1, endV]
  have ht : GiRateOfCover.P rs x = some (rateC rs x) := by
    obtain ⟨a, b, c, d, e, f, g, h, i⟩ := x
    simp only [GiRateOfCover.P, unCover, rateOn_eq, Option.bind_some, letK, rateC]
  obtain ⟨a, b, c, d, e, f, g, h, i⟩ := x
  dsimp only at hc
  simp only [GiFaultOn.P, unCover, he, ht, Option.bind_some, letK, joinK, appK, iteK_if, faultV]
  rw [wrap_in (by omega) (by omega)]
  simp only [decide_eq_true_eq, beq_iff_eq]
  simp only [apply_ite some]
theorem fault_spec {rs : List Rate} {ms : List Mail} {x : Cover} (hr : okRs rs = true) (hm : goodM ms = true) (hx : okC x = true) : GsL10Fault.P rs ms x = some (faultV rs ms x) := by
  have hc := okC_of hx
  have hrt := rateC_le hr x
  have e1 : GsL8For.P rs x.day x.zone x.grams = some (rateC rs x) := l8For_eq _ _ _ _
  have e2 : idx (earlyM ms x.from_ x.leave) x.to_ = some (endV ms x) := idx_at (early_len ms _ _) hc.2.2.2.2.1
  have e3 := times_eq hm hc.2.2.2.1 x.leave
  obtain ⟨a, b, c, d, e, f, g, h, i⟩ := x
  dsimp only at hc e1 e2 e3
  simp only [GsL10Fault.P, unCover, e1, e2, e3, Option.bind_some, letK, joinK, appK, iteK_if, faultV]
  rw [wrap_in (by omega) (by omega)]
  simp only [decide_eq_true_eq, beq_iff_eq]
  simp only [apply_ite some]
end Go.Proofs.Ytlljmgphgmklcaa.Q10Fault

/- Chapter 9: mails and routes: the plain functions of the program and of the reference agree, and the laws answer true. (Q9Cand) No condition but those of each theorem. -/
namespace Go.Proofs.Ytlljmgphgmklcaa.Q9Cand
set_option linter.unusedVariables false
set_option linter.unusedSimpArgs false
open Go.RowKit
open Go.Proofs.Ytlljmgphgmklcaa.GoP Go.Proofs.Ytlljmgphgmklcaa.PlainStamp Go.Proofs.Ytlljmgphgmklcaa.QBase Go.Proofs.Ytlljmgphgmklcaa.Q9Dual Go.Proofs.Ytlljmgphgmklcaa.Q9Arr Go.Proofs.Ytlljmgphgmklcaa.Q9List Go.Proofs.Ytlljmgphgmklcaa.Q9Mail Go.Proofs.Ytlljmgphgmklcaa.QLoop Go.Proofs.Ytlljmgphgmklcaa.PMail Go.Proofs.Ytlljmgphgmklcaa.PIntA10

theorem split_at {l : List Mail} {k : Nat} {x : Mail} (h : l[k]? = some x) : l = l.take k ++ x :: l.drop (k + 1) := by
  obtain ⟨hk, e⟩ := List.getElem?_eq_some_iff.1 h
  rw [← e, ← List.drop_eq_getElem_cons hk, List.take_append_drop]
/-- those ahead of a mail leave no later -/
theorem aheadM {l : List Mail} (hg : goodM l = true) {k : Nat} {x : Mail} (hx : l[k]? = some x) : ∀ y ∈ l.take k, y.leave ≤ x.leave := by
  intro y hy
  obtain ⟨j, hj⟩ := List.getElem?_of_mem hy
  rw [List.getElem?_take] at hj
  split at hj
  · exact m_leave hg (by assumption) hj hx
  · exact absurd hj (by simp)
theorem late_cut {l : List Mail} {k : Nat} {x : Mail} (hx : l[k]? = some x) (p b : Int) : lateM l p b = (l.take k).foldr stepL (stepL x (lateM (l.drop (k + 1)) p b)) := by
  have h := split_at hx
  show l.foldr stepL (startL p b) = _
  conv => lhs; rw [h]
  rw [List.foldr_append, List.foldr_cons]; rfl
/-- whether one still comes in time behind a mail is told by those behind it alone -/
theorem late_behind {l : List Mail} (hg : goodM l = true) {k : Nat} {x : Mail} (hx : l[k]? = some x) (p b : Int) : x.arrive ≤ at_ (lateM l p b) x.to_ ↔ x.arrive ≤ at_ (lateM (l.drop (k + 1)) p b) x.to_ := by
  have hok := m_ok hg hx
  have hm := okM_of hok
  have hd := late_len (l.drop (k + 1)) p b
  have h1 : at_ (stepL x (lateM (l.drop (k + 1)) p b)) x.to_ = at_ (lateM (l.drop (k + 1)) p b) x.to_ := by
    rw [stepL_at hd hok hm.2.1, if_neg (fun q => hm.2.2.1 q.2.symm)]
  rw [late_cut hx p b]
  have hmem : ∀ y ∈ l.take k, okM y = true := fun y hy => m_mem hg (List.mem_of_mem_take hy)
  have h2 := foldL_up (l.take k) hmem hm.2.1 (t := stepL x (lateM (l.drop (k + 1)) p b)) (by rw [stepL_len, hd])
  have h3 := foldL_top (l.take k) hmem (aheadM hg hx) hm.2.1 (t := stepL x (lateM (l.drop (k + 1)) p b)) (by rw [stepL_len, hd])
  rw [h1] at h2 h3
  constructor
  · intro h; omega
  · intro h; omega
theorem late_from {l : List Mail} (hg : goodM l = true) {k : Nat} {x : Mail} (hx : l[k]? = some x) {p b : Int} (h : x.arrive ≤ at_ (lateM l p b) x.to_) : x.leave ≤ at_ (lateM l p b) x.from_ := by
  have hok := m_ok hg hx
  have hm := okM_of hok
  have hd := late_len (l.drop (k + 1)) p b
  have h1 := (late_behind hg hx p b).1 h
  rw [late_cut hx p b]
  have hmem : ∀ y ∈ l.take k, okM y = true := fun y hy => m_mem hg (List.mem_of_mem_take hy)
  refine Int.le_trans ?_ (foldL_up (l.take k) hmem hm.1 (by rw [stepL_len, hd]))
  rw [stepL_at hd hok hm.1, if_pos ⟨h1, rfl⟩]; omega
/-- with a mail one comes no earlier than without asking for it -/
theorem take_le {l : List Mail} (hg : goodM l = true) {k : Nat} {x : Mail} (hx : l[k]? = some x) {m p : Int} (hp : 0 ≤ p ∧ p ≤ 9) (hm : 0 ≤ m ∧ m ≤ x.leave) : at_ (earlyM l x.from_ m) p ≤ at_ (earlyM l x.to_ x.arrive) p := by
  have ho := okM_of (m_ok hg hx)
  obtain ⟨b, hb⟩ : ∃ b, b = at_ (earlyM l x.to_ x.arrive) p := ⟨_, rfl⟩
  rw [← hb]
  by_cases h : b ≤ 9999
  · have h1 := (dual hg ho.2.1 hp (by omega) h).1 (Int.le_of_eq hb.symm)
    have h2 := late_from hg hx h1
    exact (dual hg ho.1 hp (by omega) h).2 (by omega)
  · have := early_top hg (m := m) ho.1 (by omega) hp; omega
/-- where one may be later than at first, some mail leads on -/
theorem late_some (l : List Mail) (hl : ∀ x ∈ l, okM x = true) {p b o m : Int} (hp : 0 ≤ p ∧ p ≤ 9) (ho : 0 ≤ o ∧ o ≤ 9) (h0 : at_ (startL p b) o < m) (h : m ≤ at_ (lateM l p b) o) : ∃ x ∈ l, x.from_ = o ∧ m ≤ x.leave ∧ x.arrive ≤ at_ (lateM l p b) x.to_ := by
  induction l with
  | nil => exact absurd h (by simp only [lateM, List.foldr_nil]; omega)
  | cons x l ih =>
    have hok := hl x (List.mem_cons_self ..)
    have hm := okM_of hok
    have hlen := late_len l p b
    have e : lateM (x :: l) p b = stepL x (lateM l p b) := rfl
    by_cases h1 : m ≤ at_ (lateM l p b) o
    · obtain ⟨y, hy, h2, h3, h4⟩ := ih (fun y hy => hl y (List.mem_cons_of_mem _ hy)) h1
      refine ⟨y, List.mem_cons_of_mem _ hy, h2, h3, Int.le_trans h4 ?_⟩
      rw [e, stepL_at hlen hok (okM_of (hl y (List.mem_cons_of_mem _ hy))).2.1]
      split <;> omega
    · rw [e, stepL_at hlen hok ho] at h
      split at h
      · rename_i hc
        refine ⟨x, List.mem_cons_self .., hc.2.symm, by omega, ?_⟩
        rw [e, stepL_at hlen hok hm.2.1, if_neg (fun q => hm.2.2.1 q.2.symm)]
        exact hc.1
      · exact absurd h h1
/-- a mail that leads on from an office at a minute -/
def cand (l : List Mail) (p e o m : Int) (x : Mail) : Bool := decide (x.from_ = o ∧ m ≤ x.leave ∧ x.arrive ≤ at_ (lateM l p e) x.to_)
theorem cand_iff {l : List Mail} (hg : goodM l = true) {p e o m : Int} (hp : 0 ≤ p ∧ p ≤ 9) (hm : 0 ≤ m) (he : e ≤ 9999) (hE : at_ (earlyM l o m) p = e) {k : Nat} {x : Mail} (hx : l[k]? = some x) :
    cand l p e o m x = decide (x.from_ = o ∧ m ≤ x.leave ∧ at_ (earlyM l x.to_ x.arrive) p = e) := by
  have h1 := okM_of (m_ok hg hx)
  unfold cand
  congr 1
  rw [eq_iff_iff]
  constructor
  · rintro ⟨rfl, h3, h4⟩
    have h5 := (dual hg h1.2.1 hp (by omega) he).2 h4
    have h6 := take_le hg hx hp ⟨hm, h3⟩
    exact ⟨rfl, h3, by omega⟩
  · rintro ⟨h2, h3, h4⟩
    exact ⟨h2, h3, (dual hg h1.2.1 hp (by omega) he).1 (Int.le_of_eq h4)⟩
theorem cand_none {l : List Mail} (hg : goodM l = true) {p e o m : Int} (hp : 0 ≤ p ∧ p ≤ 9) (ho : 0 ≤ o ∧ o ≤ 9) (hm : 0 ≤ m) (he : e ≤ 9999) (hE : at_ (earlyM l o m) p = e) (hm9 : m ≤ 9999) :
    (∀ x ∈ l, cand l p e o m x = false) ↔ o = p ∧ m = e := by
  constructor
  · intro h
    have h1 := (dual hg ho hp ⟨hm, hm9⟩ he).1 (Int.le_of_eq hE)
    have hup := early_up hg (m := m) ho hp
    have hlow := early_low hg ho hm9 hp
    by_cases hop : o = p
    · rw [if_pos hop.symm] at hup; exact ⟨hop, by omega⟩
    · obtain ⟨x, hx, h2, h3, h4⟩ := late_some l (fun x hx => m_mem hg hx) hp ho (m := m) (by rw [startL_at hp ho, if_neg hop]; omega) h1
      have := h x hx
      unfold cand at this
      rw [decide_eq_true (show x.from_ = o ∧ m ≤ x.leave ∧ x.arrive ≤ at_ (lateM l p e) x.to_ from ⟨h2, h3, h4⟩)] at this
      exact absurd this (by simp)
  · rintro ⟨rfl, rfl⟩ x hx
    obtain ⟨k, hk⟩ := List.getElem?_of_mem hx
    have h1 := okM_of (m_mem hg hx)
    rw [cand_iff hg hp hm he hE hk, decide_eq_false]
    rintro ⟨h2, h3, h4⟩
    have := early_low hg h1.2.1 (m := x.arrive) (by omega) hp
    omega
end Go.Proofs.Ytlljmgphgmklcaa.Q9Cand

/- Loops that test each place, and loops without a count. No condition. -/
namespace Go.Proofs.Ytlljmgphgmklcaa.QAll
set_option linter.unusedVariables false
set_option linter.unusedSimpArgs false
open Go.RowKit
open Go.Proofs.Ytlljmgphgmklcaa.GoP Go.Proofs.Ytlljmgphgmklcaa.QBase Go.Proofs.Ytlljmgphgmklcaa.QLoop

/-- each number below n is good -/
def allN (n : Nat) (p : Nat → Bool) : Bool := (List.range n).all p
theorem allN_iff {n : Nat} {p : Nat → Bool} : allN n p = true ↔ ∀ i, i < n → p i = true := by unfold allN; simp
theorem allN_no {n k : Nat} {p : Nat → Bool} (hk : k < n) (h : p k = false) : allN n p = false := by
  rw [Bool.eq_false_iff]; intro ha; rw [allN_iff.1 ha k hk] at h; exact absurd h (by simp)
theorem allN_eq {n m : Nat} {p q : Nat → Bool} (h : (∀ i, i < n → p i = true) ↔ (∀ i, i < m → q i = true)) : allN n p = allN m q := by
  rw [Bool.eq_iff_iff, allN_iff, allN_iff]; exact h
theorem all_cnt {ρ : Type} {n : Nat} {p : Nat → Bool} {no : ρ} {f : Nat → Unit → (Unit → Option ρ) → (Unit → Option ρ) → Option ρ} {fin : Unit → Option ρ}
    (step : ∀ k nx, k < n → (p k = false → f k () nx fin = some no) ∧ (p k = true → f k () nx fin = nx ())) : cntK f n 0 () fin = if allN n p = true then fin () else some no := by
  have key : ∀ m k, k + m = n → (∀ i, i < k → p i = true) → cntK f m k () fin = if allN n p = true then fin () else some no := by
    intro m
    induction m with
    | zero => intro k hk hu; obtain rfl : k = n := by omega
              rw [allN_iff.2 hu]; rfl
    | succ m ih =>
      intro k hk hu
      obtain ⟨h1, h2⟩ := step k (fun s' => cntK f m (k + 1) s' fin) (by omega)
      show f k () _ fin = _
      cases hp : p k with
      | false => rw [h1 hp, allN_no (by omega) hp]; rfl
      | true =>
        rw [h2 hp]
        refine ih (k + 1) (by omega) (fun i hi => ?_)
        by_cases he : i = k
        · rw [he]; exact hp
        · exact hu i (by omega)
  exact key n 0 (by omega) (fun i hi => by omega)
theorem lp_ex {σ ρ : Type} {f : σ → (σ → Option ρ) → (σ → Option ρ) → Option ρ} {fin : σ → Option ρ} {Q : ρ → Prop} {n : Nat} (I : Nat → σ → Prop)
    (step : ∀ k s nx, k < n → I k s → (∀ s', I (k + 1) s' → ∃ r, nx s' = some r ∧ Q r) → ∃ r, f s nx fin = some r ∧ Q r) (done : ∀ s nx, I n s → ∃ r, f s nx fin = some r ∧ Q r) :
    ∀ fuel k s, k ≤ n → n - k < fuel → I k s → ∃ r, loopK f fuel s fin = some r ∧ Q r := by
  intro fuel
  induction fuel with
  | zero => intro k s hk hf; omega
  | succ m ih =>
    intro k s hk hf hI
    show ∃ r, f s _ fin = some r ∧ Q r
    by_cases he : k = n
    · subst he; exact done s _ hI
    · exact step k s _ (by omega) hI (fun s' h' => ih (k + 1) s' (by omega) (by omega) h')
theorem all_lp {ρ : Type} {n : Nat} {p : Nat → Bool} {no : ρ} {f : Int → (Int → Option ρ) → (Int → Option ρ) → Option ρ} {fin : Int → Option ρ}
    (step : ∀ (k : Nat) nx, k < n → (p k = false → f (k : Int) nx fin = some no) ∧ (p k = true → f (k : Int) nx fin = nx ((k + 1 : Nat) : Int))) (stop : ∀ nx, f (n : Int) nx fin = fin (n : Int))
    (fuel : Nat) (hf : n < fuel) : loopK f fuel 0 fin = if allN n p = true then fin (n : Int) else some no := by
  have key : ∀ fuel k, k ≤ n → n - k < fuel → (∀ i, i < k → p i = true) → loopK f fuel (k : Int) fin = if allN n p = true then fin (n : Int) else some no := by
    intro fuel
    induction fuel with
    | zero => intro k hk hf; omega
    | succ m ih =>
      intro k hk hf hu
      show f (k : Int) _ fin = _
      by_cases he : k = n
      · subst he; rw [stop, allN_iff.2 hu]; rfl
      · obtain ⟨h1, h2⟩ := step k (fun s' => loopK f m s' fin) (by omega)
        cases hp : p k with
        | false => rw [h1 hp, allN_no (by omega) hp]; rfl
        | true =>
          rw [h2 hp]
          refine ih (k + 1) (by omega) (by omega) (fun i hi => ?_)
          by_cases he : i = k
          · rw [he]; exact hp
          · exact hu i (by omega)
  exact key fuel 0 (by omega) (by omega) (fun i hi => by omega)
theorem next_i {k : Nat} (h : k ≤ 9223372036854775806) : IntKind.i64.wrap ((k : Int) + 1) = ((k + 1 : Nat) : Int) := by rw [wrap_in (by omega) (by omega)]; omega
end Go.Proofs.Ytlljmgphgmklcaa.QAll

/- Rising rows: what a rising row gives; loops that sum; loops from one on. No condition. -/
namespace Go.Proofs.Ytlljmgphgmklcaa.QUp
set_option linter.unusedVariables false
set_option linter.unusedSimpArgs false
open Go.RowKit
open Go.Proofs.Ytlljmgphgmklcaa.GoP Go.Proofs.Ytlljmgphgmklcaa.QBase Go.Proofs.Ytlljmgphgmklcaa.QLoop Go.Proofs.Ytlljmgphgmklcaa.QAll

theorem upTo_at {α : Type} {ok : α → Bool} {id : α → Int} {l : List α} {n : Nat} (h : upTo ok id l n = true) {k : Nat} (hk : k < n) : upAt ok id l k = true := List.all_eq_true.1 h k (List.mem_range.2 hk)
theorem upTo_ok {α : Type} {ok : α → Bool} {id : α → Int} {l : List α} {n : Nat} (h : upTo ok id l n = true) {k : Nat} (hk : k < n) {x : α} (hx : l[k]? = some x) : ok x = true := by
  have := upTo_at h hk
  unfold upAt at this
  rw [hx] at this
  simp only [Bool.and_eq_true] at this
  exact this.1
theorem upTo_step {α : Type} {ok : α → Bool} {id : α → Int} {l : List α} {n : Nat} (h : upTo ok id l n = true) {k : Nat} (hk : k + 1 < n) {x y : α} (hx : l[k]? = some x) (hy : l[k + 1]? = some y) : id x < id y := by
  have := upTo_at h hk
  unfold upAt at this
  rw [hy] at this
  simp only [Nat.add_sub_cancel, hx, Bool.and_eq_true, Bool.or_eq_true, decide_eq_true_eq] at this
  rcases this.2 with h0 | h0
  · omega
  · exact h0
theorem upTo_lt {α : Type} {ok : α → Bool} {id : α → Int} {l : List α} {n : Nat} (h : upTo ok id l n = true) (hn : n ≤ l.length) {i : Nat} : ∀ d {x y : α}, i + d + 1 < n → l[i]? = some x → l[i + d + 1]? = some y → id x < id y := by
  intro d
  induction d with
  | zero => intro x y hk hx hy; exact upTo_step h hk hx hy
  | succ d ih =>
    intro x y hk hx hy
    obtain ⟨z, hz, _⟩ := at_lt (l := l) (k := i + d + 1) (by omega)
    have h1 := ih (by omega) hx hz
    have h2 := upTo_step (k := i + d + 1) h (by omega) hz (by rw [← hy]; rfl)
    omega
/-- rising numbers: the later one is greater -/
theorem up_less {α : Type} {ok : α → Bool} {id : α → Int} {l : List α} (h : upTo ok id l l.length = true) {i j : Nat} {x y : α} (hij : i < j) (hx : l[i]? = some x) (hy : l[j]? = some y) : id x < id y := by
  have hj := (List.getElem?_eq_some_iff.1 hy).1
  exact upTo_lt h (Nat.le_refl _) (j - i - 1) (by omega) hx (by rw [← hy]; congr 1; omega)
/-- a loop with fuel, from k on, by an invariant -/
theorem lp_is {σ ρ : Type} {f : σ → (σ → Option ρ) → (σ → Option ρ) → Option ρ} {fin : σ → Option ρ} {n : Nat} (r : ρ) (I : Nat → σ → Prop)
    (step : ∀ k s nx, k < n → I k s → (∀ s', I (k + 1) s' → nx s' = some r) → f s nx fin = some r) (done : ∀ s nx, I n s → f s nx fin = some r) (fuel : Nat) (k : Nat) (s : σ) (hk : k ≤ n) (hf : n - k < fuel) (hI : I k s) : loopK f fuel s fin = some r := by
  obtain ⟨r', h, rfl⟩ := lp_ex (Q := fun x => x = r) I (fun k s nx hk hI hn => ⟨r, step k s nx hk hI (fun s' h' => by obtain ⟨_, h, rfl⟩ := hn s' h'; exact h), rfl⟩) (fun s nx h => ⟨r, done s nx h, rfl⟩) fuel k s hk hf hI
  exact h
theorem most_eq (a b : Int) (h : (if b < a then a else b) = max a b := by omega) : (if b < a then a else b) = max a b := h
end Go.Proofs.Ytlljmgphgmklcaa.QUp

/- Chapter 9: mails and routes: the plain functions of the program and of the reference agree, and the laws answer true. (Q9Late) No condition but those of each theorem. -/
namespace Go.Proofs.Ytlljmgphgmklcaa.Q9Late
set_option linter.unusedVariables false
set_option linter.unusedSimpArgs false
open Go.RowKit
open Go.Proofs.Ytlljmgphgmklcaa.GoP Go.Proofs.Ytlljmgphgmklcaa.PlainStamp Go.Proofs.Ytlljmgphgmklcaa.QBase Go.Proofs.Ytlljmgphgmklcaa.QFoldS Go.Proofs.Ytlljmgphgmklcaa.Q9Cand Go.Proofs.Ytlljmgphgmklcaa.Q9Dual Go.Proofs.Ytlljmgphgmklcaa.Q9Arr Go.Proofs.Ytlljmgphgmklcaa.Q9List Go.Proofs.Ytlljmgphgmklcaa.Q9Mail Go.Proofs.Ytlljmgphgmklcaa.QUp Go.Proofs.Ytlljmgphgmklcaa.QAll Go.Proofs.Ytlljmgphgmklcaa.QLoop Go.Proofs.Ytlljmgphgmklcaa.PMail Go.Proofs.Ytlljmgphgmklcaa.PIntA10 Go.Proofs.Ytlljmgphgmklcaa.GoA

theorem latest_eq {fuel : Nat} {l : List Mail} (hg : goodM l = true) {p : Int} (hp : 0 ≤ p ∧ p ≤ 9) (b : Int) (hf : 20 < fuel) : GiLatestMinutes.P fuel l p b = some (toA (lateM l p b)) := by
  have hlen := m_len hg
  simp only [GiLatestMinutes.P, filled_eq, Option.bind_some, un_eq, letK]
  rw [ten (by simp), idx_at (by simp) hp, Option.bind_some, wrap_in (by omega) (by omega)]
  refine lp_is (n := l.length) _ (fun k (s : List Int × Int) => s = (lateM (l.drop (l.length - k)) p b, (l.length : Int) - 1 - (k : Int))) ?_ ?_ fuel 0 _ (by omega) (by omega) ?_
  · intro k s nx hk hI hn
    subst hI
    have hq : l.length - k - 1 < l.length := by omega
    have hx : l[l.length - k - 1]? = some l[l.length - k - 1] := List.getElem?_eq_getElem hq
    have hi : idx l ((l.length : Int) - 1 - (k : Int)) = some l[l.length - k - 1] := by
      rw [show (l.length : Int) - 1 - (k : Int) = ((l.length - k - 1 : Nat) : Int) by omega, idx_nat, hx]
    have hd : lateM (l.drop (l.length - (k + 1))) p b = stepL l[l.length - k - 1] (lateM (l.drop (l.length - k)) p b) := by
      unfold lateM
      rw [show l.length - (k + 1) = l.length - k - 1 by omega, List.drop_eq_getElem_cons hq, List.foldr_cons, show l.length - k - 1 + 1 = l.length - k by omega]
    have hok := okM_of (m_ok hg hx)
    have h0 : (0 : Int) ≤ (l.length : Int) - 1 - (k : Int) := by omega
    simp only [GiLatestMinutes.l0, unp2_mk, letK, decide_eq_true h0, iteK_if, if_true, hi, Option.bind_some]
    have hn2 := hn (stepL l[l.length - k - 1] (lateM (l.drop (l.length - k)) p b), (l.length : Int) - 1 - (k : Int) - 1) (by rw [hd]; congr 1; omega)
    revert hok hn2
    generalize l[l.length - k - 1] = x
    intro hok hn2
    obtain ⟨c, d, e, g⟩ := x
    dsimp only at hok
    simp only [unMail, idx_at (late_len _ p b) hok.2.1, idx_at (late_len _ p b) hok.1, Option.bind_some]
    rw [wrap_in (by omega) (by omega)]
    unfold stepL at hn2
    dsimp only at hn2
    by_cases h : g ≤ at_ (lateM (l.drop (l.length - k)) p b) e
    · rw [if_pos h] at hn2; rw [if_pos (by simpa using h)]; exact hn2
    · rw [if_neg h] at hn2; rw [if_neg (by simpa using h)]; exact hn2
  · intro s nx hI
    subst hI
    have h0 : ¬ (0 : Int) ≤ (l.length : Int) - 1 - (l.length : Int) := by omega
    simp only [GiLatestMinutes.l0, unp2_mk, letK, decide_eq_false h0, iteK_if, Bool.false_eq_true, if_false, appK, GiLatestMinutes.e0, Nat.sub_self, List.drop_zero]
    rfl
  · simp [lateM]; rfl
end Go.Proofs.Ytlljmgphgmklcaa.Q9Late

/- Chapter 9: mails and routes: the plain functions of the program and of the reference agree, and the laws answer true. (Q9At) No condition but those of each theorem. -/
namespace Go.Proofs.Ytlljmgphgmklcaa.Q9At
set_option linter.unusedVariables false
set_option linter.unusedSimpArgs false
open Go.RowKit
open Go.Proofs.Ytlljmgphgmklcaa.GoP Go.Proofs.Ytlljmgphgmklcaa.PlainStamp Go.Proofs.Ytlljmgphgmklcaa.QBase Go.Proofs.Ytlljmgphgmklcaa.Q9Early Go.Proofs.Ytlljmgphgmklcaa.Q9Dual Go.Proofs.Ytlljmgphgmklcaa.Q9Arr Go.Proofs.Ytlljmgphgmklcaa.Q9List Go.Proofs.Ytlljmgphgmklcaa.Q9Mail Go.Proofs.Ytlljmgphgmklcaa.QLoop Go.Proofs.Ytlljmgphgmklcaa.PMail Go.Proofs.Ytlljmgphgmklcaa.PIntA10

def atRes (l : List Mail) (o m p : Int) : Int × Bool := if askM l o m = true ∧ inB p 0 9 = true ∧ at_ (earlyM l o m) p ≠ 10000 then (at_ (earlyM l o m) p, true) else (0, false)
theorem at_impl (l : List Mail) (hl : l.length ≤ 9223372036854775807) (o m p : Int) : GiEarliestAt.P l o m p = some (atRes l o m p) := by
  simp only [GiEarliestAt.P, canBegin_eq l hl, isOffice_eq, Option.bind_some, letK, joinK, appK, iteK_if, atRes]
  cases ha : askM l o m with
  | false => simp
  | true =>
    obtain ⟨hg, ho, hm⟩ := ask_of ha
    cases hp : inB p 0 9 with
    | false => simp
    | true =>
      have hp2 := inB_of hp
      simp only [Bool.not_true, Bool.false_eq_true, if_false, earliest_eq hg ho, Option.bind_some, un_eq, ten (early_len l o m), idx_at (early_len l o m) hp2]
      by_cases h : at_ (earlyM l o m) p = 10000 <;> simp [h]
theorem at_spec (l : List Mail) (hl : l.length ≤ 9223372036854775807) (o m p : Int) : GsEarliestAt.P l o m p = some (atRes l o m p) := by
  simp only [GsEarliestAt.P, l9Asked_eq l hl, l9Office_eq, Option.bind_some, letK, joinK, appK, iteK_if, atRes]
  cases ha : askM l o m with
  | false => simp
  | true =>
    obtain ⟨hg, ho, hm⟩ := ask_of ha
    cases hp : inB p 0 9 with
    | false => simp
    | true =>
      have hp2 := inB_of hp
      simp only [Bool.not_true, Bool.false_eq_true, if_false, times_eq hg ho, Option.bind_some, idx_at (early_len l o m) hp2]
      by_cases h : at_ (earlyM l o m) p = 10000 <;> simp [h]
end Go.Proofs.Ytlljmgphgmklcaa.Q9At

/- Chapter 9: mails and routes: the plain functions of the program and of the reference agree, and the laws answer true. (Q9Drop) No condition but those of each theorem. -/
namespace Go.Proofs.Ytlljmgphgmklcaa.Q9Drop
set_option linter.unusedVariables false
set_option linter.unusedSimpArgs false
open Go.RowKit
open Go.Proofs.Ytlljmgphgmklcaa.GoP Go.Proofs.Ytlljmgphgmklcaa.PlainStamp Go.Proofs.Ytlljmgphgmklcaa.QBase Go.Proofs.Ytlljmgphgmklcaa.QLoop

/-- a counted loop through a list, by what is still to come -/
theorem cnt_drop {α σ ρ : Type} {l : List α} {f : Nat → σ → (σ → Option ρ) → (σ → Option ρ) → Option ρ} {fin : σ → Option ρ} (F : List α → σ → Option ρ) (nil : ∀ s, F [] s = fin s)
    (cons : ∀ k x s nx, l[k]? = some x → (∀ s', nx s' = F (l.drop (k + 1)) s') → f k s nx fin = F (x :: l.drop (k + 1)) s) (s : σ) : cntK f l.length 0 s fin = F l s := by
  have key : ∀ m k s, k + m = l.length → cntK f m k s fin = F (l.drop k) s := by
    intro m
    induction m with
    | zero => intro k s hk; rw [List.drop_eq_nil_of_le (by omega), nil]; rfl
    | succ m ih =>
      intro k s hk
      have hlt : k < l.length := by omega
      have hd : l.drop k = l[k] :: l.drop (k + 1) := List.drop_eq_getElem_cons hlt
      rw [hd]
      exact cons k l[k] s _ (List.getElem?_eq_getElem hlt) (fun s' => ih (k + 1) s' (by omega))
  exact key l.length 0 s (by omega)
/-- the first place that is good, or none -/
theorem first_or (p : Nat → Bool) (n : Nat) : (∀ k, k < n → p k = false) ∨ ∃ k, k < n ∧ p k = true ∧ ∀ j, j < k → p j = false := by
  induction n with
  | zero => exact Or.inl (fun k h => by omega)
  | succ n ih =>
    rcases ih with h | ⟨k, h1, h2, h3⟩
    · cases hp : p n with
      | true => exact Or.inr ⟨n, by omega, hp, h⟩
      | false => exact Or.inl (fun k hk => by by_cases he : k = n; · rw [he]; exact hp
                                              · exact h k (by omega))
    · exact Or.inr ⟨k, by omega, h2, h3⟩
theorem cnt_none {σ ρ : Type} {f : Nat → σ → (σ → Option ρ) → (σ → Option ρ) → Option ρ} {fin : σ → Option ρ} {n : Nat} {s : σ} {p : Nat → Bool} (step : ∀ k nx, k < n → p k = false → f k s nx fin = nx s) (h : ∀ k, k < n → p k = false) : cntK f n 0 s fin = fin s := by
  have key : ∀ m k, k + m = n → cntK f m k s fin = fin s := by
    intro m
    induction m with
    | zero => intro k hk; rfl
    | succ m ih => intro k hk; show f k s _ fin = _; rw [step k _ (by omega) (h k (by omega))]; exact ih (k + 1) (by omega)
  exact key n 0 (by omega)
theorem cnt_first {σ ρ : Type} {f : Nat → σ → (σ → Option ρ) → (σ → Option ρ) → Option ρ} {fin : σ → Option ρ} {n : Nat} {s : σ} {p : Nat → Bool} {j : Nat} {r : Option ρ} (hj : j < n) (step : ∀ k nx, k < j → p k = false → f k s nx fin = nx s) (h : ∀ k, k < j → p k = false) (yes : ∀ nx, f j s nx fin = r) : cntK f n 0 s fin = r := by
  have key : ∀ d m k, k + d = j → k + m = n → cntK f m k s fin = r := by
    intro d
    induction d with
    | zero => intro m k hk hm
              obtain ⟨m, rfl⟩ : ∃ q, m = q + 1 := ⟨m - 1, by omega⟩
              obtain rfl : k = j := by omega
              exact yes _
    | succ d ih => intro m k hk hm
                   obtain ⟨m, rfl⟩ : ∃ q, m = q + 1 := ⟨m - 1, by omega⟩
                   show f k s _ fin = _
                   rw [step k _ (by omega) (h k (by omega))]
                   exact ih m (k + 1) (by omega) (by omega)
  exact key j n 0 (by omega) (by omega)
end Go.Proofs.Ytlljmgphgmklcaa.Q9Drop

/- loop.example/g01062/impl.EndOfRoute as a plain function, and the contract of the program's: where the plain one has an answer, the program has it. Conditions: slices read as lists. -/
namespace Go.Proofs.Ytlljmgphgmklcaa.GiEndOfRoute
set_option linter.unusedVariables false
set_option linter.unusedSimpArgs false
open Go.RowKit
open Go.Proofs.Ytlljmgphgmklcaa.Rowed Go.Proofs.Ytlljmgphgmklcaa.Turn Go.Proofs.Ytlljmgphgmklcaa.Aid Go.Proofs.Ytlljmgphgmklcaa.GoP Go.Proofs.Ytlljmgphgmklcaa.GoM

def l0 (list : (List Go.Proofs.Ytlljmgphgmklcaa.PMail.Mail)) (route : (List Int)) (k0 : Nat) (s : Int × Int) (nx0 bk0 : Int × Int → Option (Int × Int × Bool)) : Option (Int × Int × Bool) :=
  unp2 s fun office_11l0 end_12l0 =>
  Option.bind (idx route (k0 : Int)) fun (yt_19 : Int) =>
  letK (IntKind.i64.wrap ((list.length : Int) - 1)) fun (t_25 : Int) =>
  Option.bind (Go.Proofs.Ytlljmgphgmklcaa.GiWithin.P yt_19 0 t_25) fun (t_26 : Bool) =>
  letK (!t_26) fun (t_27 : Bool) =>
  joinK (fun (t_37 : Bool) =>
  iteK t_37
  (some (0, 0, false))
  (Option.bind (idx list yt_19) fun (yt_43 : Go.Proofs.Ytlljmgphgmklcaa.PMail.Mail) =>
  unMail yt_43 fun (t_43_leave : Int) (t_43_from_ : Int) (t_43_to_ : Int) (t_43_arrive : Int) =>
  Option.bind (idx list yt_19) fun (yt_48 : Go.Proofs.Ytlljmgphgmklcaa.PMail.Mail) =>
  unMail yt_48 fun (t_48_leave : Int) (t_48_from_ : Int) (t_48_to_ : Int) (t_48_arrive : Int) =>
  appK nx0 (t_43_to_, t_48_arrive))) fun jt_37 => iteK t_27 (appK jt_37 true) (Option.bind (idx list yt_19) fun (yt_31 : Go.Proofs.Ytlljmgphgmklcaa.PMail.Mail) =>
  unMail yt_31 fun (t_31_leave : Int) (t_31_from_ : Int) (t_31_to_ : Int) (t_31_arrive : Int) =>
  Option.bind (Go.Proofs.Ytlljmgphgmklcaa.GiCanTake.P (Go.Proofs.Ytlljmgphgmklcaa.PMail.Mail.mk t_31_leave t_31_from_ t_31_to_ t_31_arrive) office_11l0 end_12l0) fun (t_35 : Bool) =>
  letK (!t_35) fun (t_36 : Bool) =>
  appK jt_37 t_36)

def e0  (s : Int × Int) : Option (Int × Int × Bool) :=
  unp2 s fun office_11l0 end_12l0 =>
  some (office_11l0, end_12l0, true)

def P (list : (List Go.Proofs.Ytlljmgphgmklcaa.PMail.Mail)) (from_1 : Int) (minute : Int) (route : (List Int)) : Option (Int × Int × Bool) :=
  Option.bind (Go.Proofs.Ytlljmgphgmklcaa.GiCanBegin.P list from_1 minute) fun (t_6 : Bool) =>
  letK (!t_6) fun (t_7 : Bool) =>
  iteK t_7
  (some (0, 0, false))
  (cntK (l0 list route) (route.length) 0 (from_1, minute) (e0 ))

set_option maxRecDepth 100000 in
set_option maxHeartbeats 2000000 in
theorem C (list : (List Go.Proofs.Ytlljmgphgmklcaa.PMail.Mail)) (from_1 : Int) (minute : Int) (route : (List Int)) (A0 : Option Addr) (c0 : Nat) (A3 : Option Addr) (c3 : Nat)  (w : World) (M0 : Hid (Cells w 4 A0 list.length (Go.Proofs.Ytlljmgphgmklcaa.PMail.flat list))) (N0 : Hid (list.length ≤ 9223372036854775807)) (M3 : Hid (Cells w 1 A3 route.length (Go.Proofs.Ytlljmgphgmklcaa.HelpInt.iv route))) (N3 : Hid (route.length ≤ 9223372036854775807))  {r0 : Int} {r1 : Int} {r2 : Bool} (H : Hid (P list from_1 minute route = some (r0, r1, r2))) :
    Calls Try.prog 56 #[.slice A0 list.length c0, .int .i64 from_1, .int .i64 minute, .slice A3 route.length c3] w (Gives (.tuple #[.int .i64 r0, .int .i64 r1, .bool r2]) w) := by
  have HB := Lib.hid (Below.refl w.heap.size w)
  unfold P at H
  have N0o := N0.out
  have N3o := N3.out
  go_enter Try.func56, Try.ntmps56
  replace H := bind_hid H
  obtain ⟨t_6, qt_6, H⟩ := H
  go_wp2_with fail
  go_at_call 117
  refine (Go.Proofs.Ytlljmgphgmklcaa.GiCanBegin.C (list) (from_1) (minute) A0 c0 _   (Lib.hid (Cells.below M0.out HB.out)) N0 qt_6).mono ?_
  rintro e_t_6 wt_6 ⟨rfl, bt_6⟩
  have HBwt_6 := Lib.hid (Below.step HB.out bt_6)
  clear bt_6
  cases t_6 with
  | false =>
    replace H := let_hid H
    obtain ⟨t_7, ht_7, H⟩ := H
    obtain rfl : t_7 = true := ht_7.symm
    replace H := ite_t H
    cases ret_hid H
    go_wp2_with fail
    go_ret3
    exact ⟨rfl, HBwt_6.out⟩
  | true =>
    replace H := let_hid H
    obtain ⟨t_7, ht_7, H⟩ := H
    obtain rfl : t_7 = false := ht_7.symm
    replace H := ite_f H
    go_wp2_with fail
    go_loopg [24, 11, 12] (route.length) (fun m_ v24_ v11_ v12_ wr => ∃ (k0 : Nat) (office_11l0 : Int) (end_12l0 : Int), k0 + m_ = route.length ∧ v24_ = .int .i64 (k0 : Int) ∧ v11_ = .int .i64 office_11l0 ∧ v12_ = .int .i64 end_12l0 ∧ Hid (cntK (l0 list route) m_ k0 (office_11l0, end_12l0) (e0 ) = some (r0, r1, r2)) ∧ Hid (Below w.heap.size w wr))
    case atStart => exact ⟨0, _, _, by omega, rfl, rfl, rfl, H, HBwt_6⟩
    case round =>
      obtain ⟨k0, office_11l0, end_12l0, hkm0, rfl, rfl, rfl, H, HBwr0⟩ := hrel
      rename World => wr0
      cases gk with
      | zero =>
        obtain rfl : k0 = route.length := by omega
        have hc0 : decide (((route.length : Nat) : Int) < ((route.length : Nat) : Int)) = false := by simp
        replace H := cnt_zero H
        unfold e0 at H
        replace H := unp2_hid H
        cases ret_hid H
        go_wp2_with fail
        go_ret3
        exact ⟨rfl, HBwr0.out⟩
      | succ m0 =>
        have hlt0 : k0 < route.length := by omega
        have hc0 : decide ((k0 : Int) < ((route.length : Nat) : Int)) = true := by simp; omega
        replace H := cnt_succ H
        unfold l0 at H
        replace H := unp2_hid H
        replace H := idx_hid H
        obtain ⟨nt_19, yt_19, et_19, lt_19, gt_19, H⟩ := H
        obtain rfl : k0 = nt_19 := by omega
        clear et_19
        obtain ⟨ab_t_19, ao_t_19, zt_19, At_19, z_t_19, ct_19_0⟩ := Go.Proofs.Ytlljmgphgmklcaa.HelpInt.Ints.at_ M3.out lt_19
        obtain rfl := Option.some.inj (gt_19.out.symm.trans z_t_19)
        subst At_19
        have ltt_19 := cell_lt ct_19_0
        replace ct_19_0 := cell_below HBwr0.out ct_19_0
        clear z_t_19
        have b0t_19 : (0 : Int) ≤ (k0 : Int) := by omega
        have b1t_19 : (k0 : Int) < ((route.length : Nat) : Int) := by omega
        have b2t_19 : ((k0 : Int)).toNat = k0 := by omega
        replace H := let_hid H
        obtain ⟨t_25, ht_25, H⟩ := H
        try have hv_t_25 : (list.length : Int) - 1 = t_25 := by rw [← ht_25]; exact (IntWalk.i64_in _ (by omega)).symm
        try have hv2_t_25 : IntKind.i64.wrap t_25 = t_25 := by rw [← hv_t_25]; exact IntWalk.i64_in _ (by omega)
        replace H := bind_hid H
        obtain ⟨t_26, qt_26, H⟩ := H
        go_wp2_with fail
        go_at_call 78
        refine (Go.Proofs.Ytlljmgphgmklcaa.GiWithin.C (yt_19) (0) (t_25)  _    qt_26).mono ?_
        rintro e_t_26 wt_26 ⟨rfl, bt_26⟩
        have HBwt_26 := Lib.hid (Below.step HBwr0.out bt_26)
        replace ct_19_0 := cell_below bt_26 ct_19_0
        clear bt_26
        cases t_26 with
        | false =>
          replace H := let_hid H
          obtain ⟨t_27, ht_27, H⟩ := H
          obtain rfl : t_27 = true := ht_27.symm
          replace H := join_hid H
          replace H := ite_t H
          replace H := app_hid H
          replace H := ite_t H
          cases ret_hid H
          go_wp2_with fail
          go_ret3
          exact ⟨rfl, HBwt_26.out⟩
        | true =>
          replace H := let_hid H
          obtain ⟨t_27, ht_27, H⟩ := H
          obtain rfl : t_27 = false := ht_27.symm
          replace H := join_hid H
          replace H := ite_f H
          replace H := idx_hid H
          obtain ⟨nt_31, yt_31, et_31, lt_31, gt_31, H⟩ := H
          subst et_31
          obtain ⟨t_31_leave, t_31_from_, t_31_to_, t_31_arrive⟩ := yt_31
          replace H := unMail_hid H
          obtain ⟨ab_t_31, ao_t_31, zt_31, At_31, z_t_31, ct_31_0, ct_31_1, ct_31_2, ct_31_3⟩ := Go.Proofs.Ytlljmgphgmklcaa.OMail.at_ M0.out lt_31
          obtain rfl := Option.some.inj (gt_31.out.symm.trans z_t_31)
          subst At_31
          have ltt_31 := cell_lt ct_31_0
          replace ct_31_0 := cell_below HBwt_26.out ct_31_0
          replace ct_31_1 := cell_below HBwt_26.out ct_31_1
          replace ct_31_2 := cell_below HBwt_26.out ct_31_2
          replace ct_31_3 := cell_below HBwt_26.out ct_31_3
          clear z_t_31
          have b0t_31 : (0 : Int) ≤ (nt_31 : Int) := by omega
          have b1t_31 : (nt_31 : Int) < ((list.length : Nat) : Int) := by omega
          have b2t_31 : ((nt_31 : Int)).toNat = nt_31 := by omega
          replace H := bind_hid H
          obtain ⟨t_35, qt_35, H⟩ := H
          go_wp2_with fail
          go_at_call 118
          refine (Go.Proofs.Ytlljmgphgmklcaa.GiCanTake.C ((Go.Proofs.Ytlljmgphgmklcaa.PMail.Mail.mk t_31_leave t_31_from_ t_31_to_ t_31_arrive)) (office_11l0) (end_12l0)  _    qt_35).mono ?_
          rintro e_t_35 wt_35 ⟨rfl, bt_35⟩
          have HBwt_35 := Lib.hid (Below.step HBwt_26.out bt_35)
          replace ct_19_0 := cell_below bt_35 ct_19_0
          replace ct_31_0 := cell_below bt_35 ct_31_0
          replace ct_31_1 := cell_below bt_35 ct_31_1
          replace ct_31_2 := cell_below bt_35 ct_31_2
          replace ct_31_3 := cell_below bt_35 ct_31_3
          clear bt_35
          cases t_35 with
          | false =>
            replace H := let_hid H
            obtain ⟨t_36, ht_36, H⟩ := H
            obtain rfl : t_36 = true := ht_36.symm
            replace H := app_hid H
            replace H := ite_t H
            cases ret_hid H
            go_wp2_with fail
            go_ret3
            exact ⟨rfl, HBwt_35.out⟩
          | true =>
            replace H := let_hid H
            obtain ⟨t_36, ht_36, H⟩ := H
            obtain rfl : t_36 = false := ht_36.symm
            replace H := app_hid H
            replace H := ite_f H
            go_wp2_with fail
            have Hct_19_0 := Lib.hid ct_19_0
            replace ct_19_0 := cell_regrown ct_19_0
            have Hct_31_0 := Lib.hid ct_31_0
            replace ct_31_0 := cell_regrown ct_31_0
            have Hct_31_1 := Lib.hid ct_31_1
            replace ct_31_1 := cell_regrown ct_31_1
            have Hct_31_2 := Lib.hid ct_31_2
            replace ct_31_2 := cell_regrown ct_31_2
            have Hct_31_3 := Lib.hid ct_31_3
            replace ct_31_3 := cell_regrown ct_31_3
            replace H := idx_hid H
            obtain ⟨nt_43, yt_43, et_43, lt_43, gt_43, H⟩ := H
            obtain rfl : nt_31 = nt_43 := by omega
            clear et_43
            obtain rfl := Option.some.inj (gt_31.out.symm.trans gt_43.out)
            clear gt_43 lt_43
            replace H := unMail_hid H
            replace H := idx_hid H
            obtain ⟨nt_48, yt_48, et_48, lt_48, gt_48, H⟩ := H
            obtain rfl : nt_31 = nt_48 := by omega
            clear et_48
            obtain rfl := Option.some.inj (gt_31.out.symm.trans gt_48.out)
            clear gt_48 lt_48
            replace H := unMail_hid H
            refine wp_region_quiet_below (by kernel_rfl) (by kernel_rfl) ?_
            repeat (go_big_quiet_step (fail))
            refine wpQuiet_nil ?_
            intro Y9 hY9
            replace hY9 := below_class hY9
            replace ct_19_0 := Hct_19_0.out
            clear Hct_19_0
            replace ct_31_0 := Hct_31_0.out
            clear Hct_31_0
            replace ct_31_1 := Hct_31_1.out
            clear Hct_31_1
            replace ct_31_2 := Hct_31_2.out
            clear Hct_31_2
            replace ct_31_3 := Hct_31_3.out
            clear Hct_31_3
            have HBY9 := Lib.hid (Below.step HBwt_35.out hY9)
            replace ct_19_0 := cell_below hY9 ct_19_0
            replace ct_31_0 := cell_below hY9 ct_31_0
            replace ct_31_1 := cell_below hY9 ct_31_1
            replace ct_31_2 := cell_below hY9 ct_31_2
            replace ct_31_3 := cell_below hY9 ct_31_3
            clear hY9
            replace H := app_hid H
            go_wp2_with fail
            go_roundg m0
            case measure => omega
            case rel => exact ⟨k0 + 1, _, _, by omega, by go_num, rfl, rfl, H, HBY9⟩
end Go.Proofs.Ytlljmgphgmklcaa.GiEndOfRoute

/- Chapter 9: mails and routes: the plain functions of the program and of the reference agree, and the laws answer true. (Q9End) No condition but those of each theorem. -/
namespace Go.Proofs.Ytlljmgphgmklcaa.Q9End
set_option linter.unusedVariables false
set_option linter.unusedSimpArgs false
open Go.RowKit
open Go.Proofs.Ytlljmgphgmklcaa.GoP Go.Proofs.Ytlljmgphgmklcaa.PlainStamp Go.Proofs.Ytlljmgphgmklcaa.QBase Go.Proofs.Ytlljmgphgmklcaa.Q9Drop Go.Proofs.Ytlljmgphgmklcaa.Q9List Go.Proofs.Ytlljmgphgmklcaa.Q9Mail Go.Proofs.Ytlljmgphgmklcaa.QLoop Go.Proofs.Ytlljmgphgmklcaa.PMail

/-- where a list of numbers ends, if it is a route -/
def endF (l : List Mail) : List Int → Int → Int → Option (Int × Int)
  | [], o, m => some (o, m)
  | i :: r, o, m => if 0 ≤ i then (match l[i.toNat]? with | none => none | some x => if x.from_ = o ∧ m ≤ x.leave then endF l r x.to_ x.arrive else none) else none
def endRes (l : List Mail) (r : List Int) (s : Int × Int) : Option (Int × Int × Bool) := some (match endF l r s.1 s.2 with | none => (0, 0, false) | some (a, b) => (a, b, true))
theorem canTake_eq (x : Mail) (o m : Int) : GiCanTake.P x o m = some (decide (x.from_ = o ∧ m ≤ x.leave)) := by
  obtain ⟨a, b, c, d⟩ := x
  simp only [GiCanTake.P, unMail, letK, joinK, appK, iteK_if]
  by_cases h1 : b = o <;> by_cases h2 : m ≤ a <;> simp [h1, h2]
theorem end_loop (l : List Mail) (hl : l.length ≤ 9223372036854775807) (r : List Int) (s : Int × Int) : cntK (GiEndOfRoute.l0 l r) r.length 0 s GiEndOfRoute.e0 = endRes l r s := by
  refine cnt_drop (endRes l) (fun s => rfl) (fun k i s nx hi hn => ?_) s
  obtain ⟨o, m⟩ := s
  have hx : idx r (k : Int) = some i := by rw [idx_nat, hi]
  simp only [GiEndOfRoute.l0, unp2_mk, hx, Option.bind_some, letK, within_eq, canTake_eq, joinK, appK, iteK_if]
  rw [wrap_in (by omega) (by omega)]
  unfold endRes
  simp only [endF]
  by_cases h0 : 0 ≤ i
  · by_cases h1 : i ≤ (l.length : Int) - 1
    · have hb : inB i 0 ((l.length : Int) - 1) = true := by unfold inB; simp [h0, h1]
      have hk : i.toNat < l.length := by omega
      have hl2 : l[i.toNat]? = some l[i.toNat] := List.getElem?_eq_getElem hk
      have hl3 : idx l i = some l[i.toNat] := by unfold idx; rw [if_pos h0, hl2]
      rw [hb, hl3, hl2]
      generalize l[i.toNat] = x
      obtain ⟨a, b, c, d⟩ := x
      simp only [Option.bind_some, unMail, Bool.not_true, Bool.false_eq_true, if_false, if_pos h0, hn]
      by_cases hc : b = o ∧ m ≤ a
      · simp [hc, endRes]
      · simp [hc]
    · have hb : inB i 0 ((l.length : Int) - 1) = false := by unfold inB; simp [h1]
      have hl2 : l[i.toNat]? = none := List.getElem?_eq_none (by omega)
      rw [hb, hl2, if_pos h0]; rfl
  · have hb : inB i 0 ((l.length : Int) - 1) = false := by unfold inB; simp [h0]
    rw [hb, if_neg h0]; rfl
def endA (l : List Mail) (o m : Int) (r : List Int) : Int × Int × Bool := if askM l o m = true then (match endF l r o m with | none => (0, 0, false) | some (a, b) => (a, b, true)) else (0, 0, false)
theorem end_impl (l : List Mail) (hl : l.length ≤ 9223372036854775807) (o m : Int) (r : List Int) : GiEndOfRoute.P l o m r = some (endA l o m r) := by
  simp only [GiEndOfRoute.P, canBegin_eq l hl, Option.bind_some, letK, iteK_if, end_loop l hl, endA, endRes]
  cases askM l o m <;> rfl
def isRt (l : List Mail) (o m : Int) (r : List Int) : Bool × Bool := if askM l o m = true ∧ r.length ≤ 20 then ((endF l r o m).isSome, true) else (false, false)
end Go.Proofs.Ytlljmgphgmklcaa.Q9End

/- Chapter 9: mails and routes: the plain functions of the program and of the reference agree, and the laws answer true. (Q9Best) No condition but those of each theorem. -/
namespace Go.Proofs.Ytlljmgphgmklcaa.Q9Best
set_option linter.unusedVariables false
set_option linter.unusedSimpArgs false
open Go.RowKit
open Go.Proofs.Ytlljmgphgmklcaa.GoP Go.Proofs.Ytlljmgphgmklcaa.PlainStamp Go.Proofs.Ytlljmgphgmklcaa.QBase Go.Proofs.Ytlljmgphgmklcaa.Q9Late Go.Proofs.Ytlljmgphgmklcaa.Q9Early Go.Proofs.Ytlljmgphgmklcaa.Q9At Go.Proofs.Ytlljmgphgmklcaa.QFoldS Go.Proofs.Ytlljmgphgmklcaa.Q9Drop Go.Proofs.Ytlljmgphgmklcaa.Q9End Go.Proofs.Ytlljmgphgmklcaa.Q9Cand Go.Proofs.Ytlljmgphgmklcaa.Q9Dual Go.Proofs.Ytlljmgphgmklcaa.Q9Arr Go.Proofs.Ytlljmgphgmklcaa.Q9List Go.Proofs.Ytlljmgphgmklcaa.Q9Mail Go.Proofs.Ytlljmgphgmklcaa.QUp Go.Proofs.Ytlljmgphgmklcaa.QAll Go.Proofs.Ytlljmgphgmklcaa.QLoop Go.Proofs.Ytlljmgphgmklcaa.PMail Go.Proofs.Ytlljmgphgmklcaa.PIntA10 Go.Proofs.Ytlljmgphgmklcaa.GoA

/-- the round of both: the first mail that leads on, or the end -/
theorem both {l : List Mail} (hg : goodM l = true) {p e : Int} (hp : 0 ≤ p ∧ p ≤ 9) (he : 0 ≤ e ∧ e ≤ 9999) : ∀ (fuel : Nat) (o m : Int) (acc : List Int), (0 ≤ o ∧ o ≤ 9) → (0 ≤ m ∧ m ≤ e) → at_ (earlyM l o m) p = e → (acc.length : Int) ≤ m → e - m < (fuel : Int) →
    ∃ r, loopK (GiFirstRoute.l0 l (lateM l p e)) fuel (o, m, acc) GiFirstRoute.e0 = some (acc ++ r) ∧ loopK (GsBestRoute.l0 l p e) fuel (o, m, acc) GsBestRoute.e0 = some (acc ++ r, true) ∧ endF l r o m = some (p, e) ∧ (r.length : Int) ≤ e - m := by
  intro fuel
  induction fuel with
  | zero => intro o m acc _ _ _ _ hf; omega
  | succ n ih =>
    intro o m acc ho hm hE hacc hf
    have hlen := m_len hg
    have step : ∀ (k : Nat) (x : Mail), l[k]? = some x → cand l p e o m x = true → ∃ r, loopK (GiFirstRoute.l0 l (lateM l p e)) n (x.to_, x.arrive, acc ++ [(k : Int)]) GiFirstRoute.e0 = some (acc ++ [(k : Int)] ++ r) ∧ loopK (GsBestRoute.l0 l p e) n (x.to_, x.arrive, acc ++ [(k : Int)]) GsBestRoute.e0 = some (acc ++ [(k : Int)] ++ r, true) ∧ endF l r x.to_ x.arrive = some (p, e) ∧ (r.length : Int) ≤ e - x.arrive ∧ x.from_ = o ∧ m ≤ x.leave ∧ x.leave < x.arrive := by
      intro k x hx hc
      have hx1 := okM_of (m_ok hg hx)
      rw [cand_iff hg hp hm.1 he.2 hE hx] at hc
      obtain ⟨h1, h2, h3⟩ := of_decide_eq_true hc
      have h4 := early_low hg hx1.2.1 (m := x.arrive) (by omega) hp
      obtain ⟨r, r1, r2, r3, r4⟩ := ih x.to_ x.arrive (acc ++ [(k : Int)]) hx1.2.1 (by omega) h3 (by simp; omega) (by omega)
      exact ⟨r, r1, r2, r3, r4, h1, h2, hx1.2.2.2.2.1⟩
    -- a round of the program's inner loop
    have inner1 : ∀ (k : Nat) nx, k < l.length → (match l[k]? with | none => false | some x => cand l p e o m x) = false → GiFirstRoute.l1 l (lateM l p e) (fun s' => loopK (GiFirstRoute.l0 l (lateM l p e)) n s' GiFirstRoute.e0) k (o, m, acc) nx GiFirstRoute.e1 = nx (o, m, acc) := by
      intro k nx hk hc
      have hx : l[k]? = some l[k] := List.getElem?_eq_getElem hk
      have hi : idx l (k : Int) = some l[k] := by rw [idx_nat, hx]
      have hx1 := okM_of (m_ok hg hx)
      rw [hx] at hc
      try dsimp only at hc
      revert hi hx1 hc
      generalize l[k] = x
      intro hc hi hx1
      obtain ⟨a, b, c, d⟩ := x
      try dsimp only at hx1
      unfold cand at hc
      have hc2 := of_decide_eq_false hc
      try dsimp only at hc2
      simp only [GiFirstRoute.l1, unp3_mk, hi, Option.bind_some, unMail, canTake_eq, joinK, appK, iteK_if, idx_at (late_len l p e) hx1.2.1, letK]
      by_cases h1 : b = o ∧ m ≤ a
      · have h2 : ¬ d ≤ at_ (lateM l p e) c := fun q => hc2 ⟨h1.1, h1.2, q⟩
        simp [h1, h2]
      · simp [h1]
    have inner2 : ∀ (k : Nat) nx, k < l.length → (match l[k]? with | none => false | some x => cand l p e o m x) = false → GsBestRoute.l1 l p e k (o, m, acc) nx (GsBestRoute.e1 (fun s' => loopK (GsBestRoute.l0 l p e) n s' GsBestRoute.e0)) = nx (o, m, acc) := by
      intro k nx hk hc
      have hx : l[k]? = some l[k] := List.getElem?_eq_getElem hk
      have hi : idx l (k : Int) = some l[k] := by rw [idx_nat, hx]
      have hx1 := okM_of (m_ok hg hx)
      have hci := cand_iff hg hp hm.1 he.2 hE hx
      rw [hx] at hc
      try dsimp only at hc
      rw [hci] at hc
      revert hi hx1 hc
      generalize l[k] = x
      intro hc hi hx1
      obtain ⟨a, b, c, d⟩ := x
      try dsimp only at hx1
      have hc2 := of_decide_eq_false hc
      try dsimp only at hc2
      simp only [GsBestRoute.l1, unp3_mk, hi, Option.bind_some, unMail, joinK, appK, iteK_if, letK, times_eq hg hx1.2.1, idx_at (early_len l c d) hp]
      by_cases h1 : b = o
      · by_cases h2 : m ≤ a
        · have h3 : ¬ at_ (earlyM l c d) p = e := fun q => hc2 ⟨h1, h2, q⟩
          simp [h1, h2, h3]
        · simp [h1, h2]
      · simp [h1]
    show ∃ r, GiFirstRoute.l0 l (lateM l p e) (o, m, acc) (fun s' => loopK (GiFirstRoute.l0 l (lateM l p e)) n s' GiFirstRoute.e0) GiFirstRoute.e0 = some (acc ++ r) ∧ GsBestRoute.l0 l p e (o, m, acc) (fun s' => loopK (GsBestRoute.l0 l p e) n s' GsBestRoute.e0) GsBestRoute.e0 = some (acc ++ r, true) ∧ _
    have hnone := cand_none hg hp ho hm.1 he.2 hE (by omega)
    rcases first_or (fun k => match l[k]? with | none => false | some x => cand l p e o m x) l.length with h | ⟨k, hk, hk2, hk3⟩
    · have hend := hnone.1 (fun x hx => by
        obtain ⟨k, hk⟩ := List.getElem?_of_mem hx
        have := h k (List.getElem?_eq_some_iff.1 hk).1
        rw [hk] at this; exact this)
      obtain ⟨rfl, rfl⟩ := hend
      refine ⟨[], ?_, ?_, rfl, by simp⟩
      · simp only [GiFirstRoute.l0, unp3_mk]
        rw [cnt_none inner1 h]; simp [GiFirstRoute.e1, unp3_mk]
      · simp [GsBestRoute.l0, unp3_mk, letK, joinK, appK, iteK_if, GsBestRoute.e0]
    · have hx : l[k]? = some l[k] := List.getElem?_eq_getElem hk
      have hi : idx l (k : Int) = some l[k] := by rw [idx_nat, hx]
      have hx1 := okM_of (m_ok hg hx)
      have hci := cand_iff hg hp hm.1 he.2 hE hx
      rw [hx] at hk2
      try dsimp only at hk2
      obtain ⟨r, r1, r2, r3, r4, r5, r6, r7⟩ := step k l[k] hx hk2
      refine ⟨(k : Int) :: r, ?_, ?_, ?_, ?_⟩
      · rw [show acc ++ (k : Int) :: r = acc ++ [(k : Int)] ++ r by simp]
        simp only [GiFirstRoute.l0, unp3_mk]
        refine cnt_first (p := fun k => match l[k]? with | none => false | some x => cand l p e o m x) hk (fun k nx h1 h2 => inner1 k nx (by omega) h2) hk3 (fun nx => ?_)
        rw [← r1]
        unfold cand at hk2
        have hc2 := of_decide_eq_true hk2
        clear r1 r2 r3 r4 hk2 hci hx
        revert hi hx1 hc2
        generalize l[k] = x
        intro hi hx1 hc2
        obtain ⟨a, b, c, d⟩ := x
        dsimp only at hx1 hc2
        simp only [GiFirstRoute.l1, unp3_mk, hi, Option.bind_some, unMail, canTake_eq, joinK, appK, iteK_if, idx_at (late_len l p e) hx1.2.1, letK]
        rw [guardK_pos (by omega)]
        simp [hc2]
      · rw [show acc ++ (k : Int) :: r = acc ++ [(k : Int)] ++ r by simp]
        have hne : ¬ (o = p ∧ m = e) := by
          intro q
          have := hnone.2 q l[k] (List.mem_of_getElem? hx)
          rw [this] at hk2; exact absurd hk2 (by simp)
        simp only [GsBestRoute.l0, unp3_mk, letK, joinK, appK, iteK_if]
        have hgo : cntK (GsBestRoute.l1 l p e) l.length 0 (o, m, acc) (GsBestRoute.e1 (fun s' => loopK (GsBestRoute.l0 l p e) n s' GsBestRoute.e0)) = some (acc ++ [(k : Int)] ++ r, true) := by
          refine cnt_first (p := fun k => match l[k]? with | none => false | some x => cand l p e o m x) hk (fun k nx h1 h2 => inner2 k nx (by omega) h2) hk3 (fun nx => ?_)
          rw [← r2]
          rw [hci] at hk2
          have hc2 := of_decide_eq_true hk2
          clear r1 r2 r3 r4 hk2 hci hx
          revert hi hx1 hc2
          generalize l[k] = x
          intro hi hx1 hc2
          obtain ⟨a, b, c, d⟩ := x
          dsimp only at hx1 hc2
          simp only [GsBestRoute.l1, unp3_mk, hi, Option.bind_some, unMail, joinK, appK, iteK_if, letK, times_eq hg hx1.2.1, idx_at (early_len l c d) hp]
          rw [guardK_pos (by omega)]
          simp [hc2, GsBestRoute.e1, unp3_mk, appK]
        by_cases h1 : o = p
        · have h2 : ¬ m = e := fun q => hne ⟨h1, q⟩
          simp [h1, h2] at hgo ⊢
          exact hgo
        · simp [h1] at hgo ⊢
          exact hgo
      · simp only [endF]
        rw [if_pos (by omega), show ((k : Int)).toNat = k by omega, hx]
        dsimp only
        rw [if_pos ⟨r5, r6⟩]; exact r3
      · simp; omega
theorem best_both {fuel : Nat} (l : List Mail) (hl : l.length ≤ 9223372036854775807) (o m p : Int) (hf : 10000 < fuel) : ∃ r ok, GiBestRoute.P fuel l o m p = some (r, ok) ∧ GsBestRoute.P fuel l o m p = some (r, ok) ∧ r.length ≤ 10000 ∧ ok = (atRes l o m p).2 ∧ (ok = true → endF l r o m = some (p, (atRes l o m p).1)) := by
  simp only [GiBestRoute.P, GsBestRoute.P, at_impl l hl, at_spec l hl]
  by_cases h : askM l o m = true ∧ inB p 0 9 = true ∧ at_ (earlyM l o m) p ≠ 10000
  · have hr : atRes l o m p = (at_ (earlyM l o m) p, true) := by unfold atRes; rw [if_pos h]
    obtain ⟨h1, h2, h3⟩ := h
    obtain ⟨hg, ho, hm⟩ := ask_of h1
    have hp := inB_of h2
    have htop := early_top hg (m := m) ho hm.2 hp
    have hlow := early_low hg (m := m) ho hm.2 hp
    rw [hr]
    obtain ⟨r, r1, r2, r3, r4⟩ := both hg hp (e := at_ (earlyM l o m) p) (by omega) fuel o m [] ho (by omega) rfl (by simp; omega) (by omega)
    rw [List.nil_append] at r1 r2
    refine ⟨r, true, ?_, ?_, by omega, rfl, fun _ => r3⟩
    · simp only [bind2_some, letK, iteK_if, Bool.not_true, Bool.false_eq_true, if_false, latest_eq hg hp _ (show 20 < fuel by omega), Option.bind_some, un_eq, GiFirstRoute.P]
      rw [ten (late_len l p _), r1]; rfl
    · simp only [bind2_some, letK, iteK_if, Bool.not_true, Bool.false_eq_true, if_false]
      exact r2
  · have hr : atRes l o m p = (0, false) := by unfold atRes; rw [if_neg h]
    rw [hr]
    exact ⟨[], false, rfl, rfl, by simp, rfl, fun q => absurd q (by simp)⟩
end Go.Proofs.Ytlljmgphgmklcaa.Q9Best

/- loop.example/g01062/spec.RouteOn as a plain function, and the contract of the program's: where the plain one has an answer, the program has it. Conditions: slices read as lists. -/
namespace Go.Proofs.Ytlljmgphgmklcaa.GsRouteOn
set_option linter.unusedVariables false
set_option linter.unusedSimpArgs false
open Go.RowKit
open Go.Proofs.Ytlljmgphgmklcaa.Rowed Go.Proofs.Ytlljmgphgmklcaa.Turn Go.Proofs.Ytlljmgphgmklcaa.Aid Go.Proofs.Ytlljmgphgmklcaa.GoP Go.Proofs.Ytlljmgphgmklcaa.GoM

def P (fuel : Nat) (mails : (List Go.Proofs.Ytlljmgphgmklcaa.PMail.Mail)) (x : Go.Proofs.Ytlljmgphgmklcaa.PCover.Cover) : Option ((List Int) × Bool) :=
  unCover x fun (x_id : Int) (x_day : Int) (x_zone : Int) (x_grams : Int) (x_paid : Int) (x_from_ : Int) (x_to_ : Int) (x_leave : Int) (x_arrive : Int) =>
  Option.bind (Go.Proofs.Ytlljmgphgmklcaa.GsL9Good.P mails) fun (t_4 : Bool) =>
  letK (!t_4) fun (t_5 : Bool) =>
  joinK (fun (t_10 : Bool) =>
  iteK t_10
  (some (([] : List Int), false))
  (bind2 (Go.Proofs.Ytlljmgphgmklcaa.GsL10Route.P fuel mails (Go.Proofs.Ytlljmgphgmklcaa.PCover.Cover.mk x_id x_day x_zone x_grams x_paid x_from_ x_to_ x_leave x_arrive)) fun (t_16a : (List Int)) (t_16b : Bool) =>
  some (t_16a, t_16b))) fun jt_10 => iteK t_5 (appK jt_10 true) (Option.bind (Go.Proofs.Ytlljmgphgmklcaa.GsL10One.P (Go.Proofs.Ytlljmgphgmklcaa.PCover.Cover.mk x_id x_day x_zone x_grams x_paid x_from_ x_to_ x_leave x_arrive)) fun (t_8 : Bool) =>
  letK (!t_8) fun (t_9 : Bool) =>
  appK jt_10 t_9)

set_option maxRecDepth 100000 in
set_option maxHeartbeats 2000000 in
theorem C (fuel : Nat) (mails : (List Go.Proofs.Ytlljmgphgmklcaa.PMail.Mail)) (x : Go.Proofs.Ytlljmgphgmklcaa.PCover.Cover) (A0 : Option Addr) (c0 : Nat)  (w : World) (M0 : Hid (Cells w 4 A0 mails.length (Go.Proofs.Ytlljmgphgmklcaa.PMail.flat mails))) (N0 : Hid (mails.length ≤ 9223372036854775807))  {r0 : (List Int)} {r1 : Bool} (H : Hid (P fuel mails x = some (r0, r1))) :
    Calls Try.prog 45 #[.slice A0 mails.length c0, x.val] w (fun e w' => ∃ A_r0 c_r0, e = .returned (.tuple #[.slice A_r0 r0.length c_r0, .bool r1]) ∧ w'.ownsRow w.heap.size 3 1 (.slice A_r0 r0.length c_r0) r0.length (Go.Proofs.Ytlljmgphgmklcaa.HelpInt.iv r0) ∧ Below w.heap.size w w') := by
  have HB := Lib.hid (Below.refl w.heap.size w)
  unfold P at H
  obtain ⟨x_id, x_day, x_zone, x_grams, x_paid, x_from_, x_to_, x_leave, x_arrive⟩ := x
  replace H := unCover_hid H
  unfold Go.Proofs.Ytlljmgphgmklcaa.PCover.Cover.val
  have N0o := N0.out
  go_enter Try.func45, Try.ntmps45
  obtain ⟨w_x_0, hw_x_0⟩ : ∃ x, w.alloc (.cells #[.int .i64 x_id, .int .i64 x_day, .int .i64 x_zone, .int .i64 x_grams, .int .i64 x_paid, .int .i64 x_from_, .int .i64 x_to_, .int .i64 x_leave, .int .i64 x_arrive] 25) = x := ⟨_, rfl⟩
  have bw_x_0 : Below w.heap.size w w_x_0 := by rw [← hw_x_0]; exact (Below.refl _ _).alloc (Nat.le_refl _) _
  have HBw_x_0 := Lib.hid (Below.step HB.out bw_x_0)
  clear bw_x_0
  have kx_0_0 : w_x_0.cell? ⟨w.heap.size, 0, none⟩ = some (.int .i64 x_id) := by rw [← hw_x_0]; exact box_new _ _ _ 0 _ rfl
  have kx_0_1 : w_x_0.cell? ⟨w.heap.size, 1, none⟩ = some (.int .i64 x_day) := by rw [← hw_x_0]; exact box_new _ _ _ 1 _ rfl
  have kx_0_2 : w_x_0.cell? ⟨w.heap.size, 2, none⟩ = some (.int .i64 x_zone) := by rw [← hw_x_0]; exact box_new _ _ _ 2 _ rfl
  have kx_0_3 : w_x_0.cell? ⟨w.heap.size, 3, none⟩ = some (.int .i64 x_grams) := by rw [← hw_x_0]; exact box_new _ _ _ 3 _ rfl
  have kx_0_4 : w_x_0.cell? ⟨w.heap.size, 4, none⟩ = some (.int .i64 x_paid) := by rw [← hw_x_0]; exact box_new _ _ _ 4 _ rfl
  have kx_0_5 : w_x_0.cell? ⟨w.heap.size, 5, none⟩ = some (.int .i64 x_from_) := by rw [← hw_x_0]; exact box_new _ _ _ 5 _ rfl
  have kx_0_6 : w_x_0.cell? ⟨w.heap.size, 6, none⟩ = some (.int .i64 x_to_) := by rw [← hw_x_0]; exact box_new _ _ _ 6 _ rfl
  have kx_0_7 : w_x_0.cell? ⟨w.heap.size, 7, none⟩ = some (.int .i64 x_leave) := by rw [← hw_x_0]; exact box_new _ _ _ 7 _ rfl
  have kx_0_8 : w_x_0.cell? ⟨w.heap.size, 8, none⟩ = some (.int .i64 x_arrive) := by rw [← hw_x_0]; exact box_new _ _ _ 8 _ rfl
  replace H := bind_hid H
  obtain ⟨t_4, qt_4, H⟩ := H
  go_wp2_with fail
  go_at_call 90
  refine (Go.Proofs.Ytlljmgphgmklcaa.GsL9Good.C (mails) A0 c0 _   (Lib.hid (Cells.below M0.out HBw_x_0.out)) N0 qt_4).mono ?_
  rintro e_t_4 wt_4 ⟨rfl, bt_4⟩
  have HBwt_4 := Lib.hid (Below.step HBw_x_0.out bt_4)
  replace kx_0_0 := cell_below bt_4 kx_0_0
  replace kx_0_1 := cell_below bt_4 kx_0_1
  replace kx_0_2 := cell_below bt_4 kx_0_2
  replace kx_0_3 := cell_below bt_4 kx_0_3
  replace kx_0_4 := cell_below bt_4 kx_0_4
  replace kx_0_5 := cell_below bt_4 kx_0_5
  replace kx_0_6 := cell_below bt_4 kx_0_6
  replace kx_0_7 := cell_below bt_4 kx_0_7
  replace kx_0_8 := cell_below bt_4 kx_0_8
  clear bt_4
  cases t_4 with
  | false =>
    replace H := let_hid H
    obtain ⟨t_5, ht_5, H⟩ := H
    obtain rfl : t_5 = true := ht_5.symm
    replace H := join_hid H
    replace H := ite_t H
    replace H := app_hid H
    replace H := ite_t H
    obtain ⟨w_t_11, hw_t_11⟩ : ∃ x, wt_4.alloc (.cells #[] 3) = x := ⟨_, rfl⟩
    have bw_t_11 : Below wt_4.heap.size wt_4 w_t_11 := by rw [← hw_t_11]; exact (Below.refl _ _).alloc (Nat.le_refl _) _
    have Ot_11 : Hid (w_t_11.ownsRow w.heap.size 3 1 (.slice (some ⟨wt_4.heap.size, 0, none⟩) 0 0) 0 []) := Lib.hid (by rw [← hw_t_11]; exact own_empty HBwt_4.out.size)
    have Dt_11_x_0 := Lib.hid (apart_box kx_0_0)
    have HBw_t_11 := Lib.hid (Below.step HBwt_4.out bw_t_11)
    have kx_0_0__953 := cell_below bw_t_11 kx_0_0
    have kx_0_1__954 := cell_below bw_t_11 kx_0_1
    have kx_0_2__955 := cell_below bw_t_11 kx_0_2
    have kx_0_3__956 := cell_below bw_t_11 kx_0_3
    have kx_0_4__957 := cell_below bw_t_11 kx_0_4
    have kx_0_5__958 := cell_below bw_t_11 kx_0_5
    have kx_0_6__959 := cell_below bw_t_11 kx_0_6
    have kx_0_7__960 := cell_below bw_t_11 kx_0_7
    have kx_0_8__961 := cell_below bw_t_11 kx_0_8
    clear bw_t_11
    cases ret_hid H
    go_wp2_with fail
    go_ret2
    exact ⟨(some ⟨wt_4.heap.size, 0, none⟩), 0, rfl, Ot_11.out, HBw_t_11.out⟩
  | true =>
    replace H := let_hid H
    obtain ⟨t_5, ht_5, H⟩ := H
    obtain rfl : t_5 = false := ht_5.symm
    replace H := join_hid H
    replace H := ite_f H
    replace H := bind_hid H
    obtain ⟨t_8, qt_8, H⟩ := H
    go_wp2_with fail
    go_at_call 77
    refine (Go.Proofs.Ytlljmgphgmklcaa.GsL10One.C ((Go.Proofs.Ytlljmgphgmklcaa.PCover.Cover.mk x_id x_day x_zone x_grams x_paid x_from_ x_to_ x_leave x_arrive))  _    qt_8).mono ?_
    rintro e_t_8 wt_8 ⟨rfl, bt_8⟩
    have HBwt_8 := Lib.hid (Below.step HBwt_4.out bt_8)
    replace kx_0_0 := cell_below bt_8 kx_0_0
    replace kx_0_1 := cell_below bt_8 kx_0_1
    replace kx_0_2 := cell_below bt_8 kx_0_2
    replace kx_0_3 := cell_below bt_8 kx_0_3
    replace kx_0_4 := cell_below bt_8 kx_0_4
    replace kx_0_5 := cell_below bt_8 kx_0_5
    replace kx_0_6 := cell_below bt_8 kx_0_6
    replace kx_0_7 := cell_below bt_8 kx_0_7
    replace kx_0_8 := cell_below bt_8 kx_0_8
    clear bt_8
    cases t_8 with
    | false =>
      replace H := let_hid H
      obtain ⟨t_9, ht_9, H⟩ := H
      obtain rfl : t_9 = true := ht_9.symm
      replace H := app_hid H
      replace H := ite_t H
      obtain ⟨w_t_11, hw_t_11⟩ : ∃ x, wt_8.alloc (.cells #[] 3) = x := ⟨_, rfl⟩
      have bw_t_11 : Below wt_8.heap.size wt_8 w_t_11 := by rw [← hw_t_11]; exact (Below.refl _ _).alloc (Nat.le_refl _) _
      have Ot_11 : Hid (w_t_11.ownsRow w.heap.size 3 1 (.slice (some ⟨wt_8.heap.size, 0, none⟩) 0 0) 0 []) := Lib.hid (by rw [← hw_t_11]; exact own_empty HBwt_8.out.size)
      have Dt_11_x_0 := Lib.hid (apart_box kx_0_0)
      have HBw_t_11 := Lib.hid (Below.step HBwt_8.out bw_t_11)
      have kx_0_0__962 := cell_below bw_t_11 kx_0_0
      have kx_0_1__963 := cell_below bw_t_11 kx_0_1
      have kx_0_2__964 := cell_below bw_t_11 kx_0_2
      have kx_0_3__965 := cell_below bw_t_11 kx_0_3
      have kx_0_4__966 := cell_below bw_t_11 kx_0_4
      have kx_0_5__967 := cell_below bw_t_11 kx_0_5
      have kx_0_6__968 := cell_below bw_t_11 kx_0_6
      have kx_0_7__969 := cell_below bw_t_11 kx_0_7
      have kx_0_8__970 := cell_below bw_t_11 kx_0_8
      clear bw_t_11
      cases ret_hid H
      go_wp2_with fail
      go_ret2
      exact ⟨(some ⟨wt_8.heap.size, 0, none⟩), 0, rfl, Ot_11.out, HBw_t_11.out⟩
    | true =>
      replace H := let_hid H
      obtain ⟨t_9, ht_9, H⟩ := H
      obtain rfl : t_9 = false := ht_9.symm
      replace H := app_hid H
      replace H := ite_f H
      replace H := bind2_hid H
      obtain ⟨t_16a, t_16b, qt_16, H⟩ := H
      go_wp2_with fail
      go_at_call 103
      refine (Go.Proofs.Ytlljmgphgmklcaa.GsL10Route.C fuel (mails) ((Go.Proofs.Ytlljmgphgmklcaa.PCover.Cover.mk x_id x_day x_zone x_grams x_paid x_from_ x_to_ x_leave x_arrive)) A0 c0 _   (Lib.hid (Cells.below M0.out HBwt_8.out)) N0 qt_16).mono ?_
      rintro e_t_16 wt_16 ⟨At_16a, ct_16a, rfl, ot_16a, bt_16⟩
      have Dt_16a_x_0 := Lib.hid (apart_callbox ot_16a kx_0_0)
      have Ot_16a := Lib.hid (own_lower ot_16a HBwt_8.out.size)
      clear ot_16a
      have HBwt_16 := Lib.hid (Below.step HBwt_8.out bt_16)
      replace kx_0_0 := cell_below bt_16 kx_0_0
      replace kx_0_1 := cell_below bt_16 kx_0_1
      replace kx_0_2 := cell_below bt_16 kx_0_2
      replace kx_0_3 := cell_below bt_16 kx_0_3
      replace kx_0_4 := cell_below bt_16 kx_0_4
      replace kx_0_5 := cell_below bt_16 kx_0_5
      replace kx_0_6 := cell_below bt_16 kx_0_6
      replace kx_0_7 := cell_below bt_16 kx_0_7
      replace kx_0_8 := cell_below bt_16 kx_0_8
      clear bt_16
      cases ret_hid H
      go_wp2_with fail
      go_ret2
      exact ⟨At_16a, ct_16a, rfl, Ot_16a.out, HBwt_16.out⟩
end Go.Proofs.Ytlljmgphgmklcaa.GsRouteOn

