/- Texts on which the proofs of several laws stand, one behind the other (7 of 21). No condition of their own. -/
import Derived.Test.YtlljmgphgmklcaaChecked
import Derived.Test.YtlljmgphgmklcaaC10P1
import Derived.Test.YtlljmgphgmklcaaC10P2
import Derived.Test.YtlljmgphgmklcaaC10P4
import Derived.Test.YtlljmgphgmklcaaC10P6
import Derived.WalkKit
import Derived.WalkSpells
import Derived.WalkLawsBesides
import Derived.BigQuiet
import Derived.OwnWalk
import Derived.Deep.LoopGhost
import Derived.Deep.QuietTactic
import Derived.IntWalk
import Derived.Lib.QuietBelow
import Derived.Test.YtlljmgphgmklcaaC10P3
import Derived.Test.YtlljmgphgmklcaaC10P5
import Derived.ScopeJumps
/- loop.example/g01062/spec.l10Fault as a plain function, and the contract of the program's: where the plain one has an answer, the program has it. Conditions: slices read as lists. -/
namespace Go.Proofs.Ytlljmgphgmklcaa.GsL10Fault
set_option linter.unusedVariables false
set_option linter.unusedSimpArgs false
open Go.RowKit
open Go.Proofs.Ytlljmgphgmklcaa.Rowed Go.Proofs.Ytlljmgphgmklcaa.Turn Go.Proofs.Ytlljmgphgmklcaa.Aid Go.Proofs.Ytlljmgphgmklcaa.GoP Go.Proofs.Ytlljmgphgmklcaa.GoM

def P (rates : (List Go.Proofs.Ytlljmgphgmklcaa.PRate.Rate)) (mails : (List Go.Proofs.Ytlljmgphgmklcaa.PMail.Mail)) (x : Go.Proofs.Ytlljmgphgmklcaa.PCover.Cover) : Option (Int) :=
  unCover x fun (x_id : Int) (x_day : Int) (x_zone : Int) (x_grams : Int) (x_paid : Int) (x_from_ : Int) (x_to_ : Int) (x_leave : Int) (x_arrive : Int) =>
  Option.bind (Go.Proofs.Ytlljmgphgmklcaa.GsL8For.P rates x_day x_zone x_grams) fun (t_9 : Int) =>
  Option.bind (Go.Proofs.Ytlljmgphgmklcaa.GsL9Times.P mails x_from_ x_leave) fun (t_16 : (List Int)) =>
  Option.bind (idx t_16 x_to_) fun (yt_19 : Int) =>
  letK (t_9 == 0) fun (t_23 : Bool) =>
  iteK t_23
  (some 1)
  (letK (decide (x_paid < t_9)) fun (t_29 : Bool) =>
  iteK t_29
  (some 2)
  (letK (IntKind.i64.wrap (2 * t_9)) fun (t_35 : Int) =>
  letK (decide (t_35 < x_paid)) fun (t_36 : Bool) =>
  iteK t_36
  (some 3)
  (letK (yt_19 == 10000) fun (t_40 : Bool) =>
  iteK t_40
  (some 4)
  (letK (decide (x_arrive < yt_19)) fun (t_46 : Bool) =>
  iteK t_46
  (some 5)
  (some 0)))))

set_option maxRecDepth 100000 in
set_option maxHeartbeats 2000000 in
theorem C (rates : (List Go.Proofs.Ytlljmgphgmklcaa.PRate.Rate)) (mails : (List Go.Proofs.Ytlljmgphgmklcaa.PMail.Mail)) (x : Go.Proofs.Ytlljmgphgmklcaa.PCover.Cover) (A0 : Option Addr) (c0 : Nat) (A1 : Option Addr) (c1 : Nat)  (w : World) (M0 : Hid (Cells w 5 A0 rates.length (Go.Proofs.Ytlljmgphgmklcaa.PRate.flat rates))) (N0 : Hid (rates.length ≤ 9223372036854775807)) (M1 : Hid (Cells w 4 A1 mails.length (Go.Proofs.Ytlljmgphgmklcaa.PMail.flat mails))) (N1 : Hid (mails.length ≤ 9223372036854775807))  {r : Int} (H : Hid (P rates mails x = some r)) :
    Calls Try.prog 91 #[.slice A0 rates.length c0, .slice A1 mails.length c1, x.val] w (Gives (.int .i64 r) w) := by
  have HB := Lib.hid (Below.refl w.heap.size w)
  unfold P at H
  obtain ⟨x_id, x_day, x_zone, x_grams, x_paid, x_from_, x_to_, x_leave, x_arrive⟩ := x
  replace H := unCover_hid H
  unfold Go.Proofs.Ytlljmgphgmklcaa.PCover.Cover.val
  have N0o := N0.out
  have N1o := N1.out
  go_enter Try.func91, Try.ntmps91
  obtain ⟨w_x_0, hw_x_0⟩ : ∃ x, w.alloc (.cells #[.int .i64 x_id, .int .i64 x_day, .int .i64 x_zone, .int .i64 x_grams, .int .i64 x_paid, .int .i64 x_from_, .int .i64 x_to_, .int .i64 x_leave, .int .i64 x_arrive] 25) = x := ⟨_, rfl⟩
  have bw_x_0 : Below w.heap.size w w_x_0 := by rw [← hw_x_0]; exact (Below.refl _ _).alloc (Nat.le_refl _) _
  have HBw_x_0 := Lib.hid (Below.step HB.out bw_x_0)
  clear bw_x_0
  have kx_0_0 : w_x_0.cell? ⟨w.heap.size, 0, none⟩ = some (.int .i64 x_id) := by rw [← hw_x_0]; exact box_new _ _ _ 0 _ rfl
  have kx_0_1 : w_x_0.cell? ⟨w.heap.size, 1, none⟩ = some (.int .i64 x_day) := by rw [← hw_x_0]; exact box_new _ _ _ 1 _ rfl
  have kx_0_2 : w_x_0.cell? ⟨w.heap.size, 2, none⟩ = some (.int .i64 x_zone) := by rw [← hw_x_0]; exact box_new _ _ _ 2 _ rfl
  have kx_0_3 : w_x_0.cell? ⟨w.heap.size, 3, none⟩ = some (.int .i64 x_grams) := by rw [← hw_x_0]; exact box_new _ _ _ 3 _ rfl
  have kx_0_4 : w_x_0.cell? ⟨w.heap.size, 4, none⟩ = some (.int .i64 x_paid) := by rw [← hw_x_0]; exact box_new _ _ _ 4 _ rfl
  have kx_0_5 : w_x_0.cell? ⟨w.heap.size, 5, none⟩ = some (.int .i64 x_from_) := by rw [← hw_x_0]; exact box_new _ _ _ 5 _ rfl
  have kx_0_6 : w_x_0.cell? ⟨w.heap.size, 6, none⟩ = some (.int .i64 x_to_) := by rw [← hw_x_0]; exact box_new _ _ _ 6 _ rfl
  have kx_0_7 : w_x_0.cell? ⟨w.heap.size, 7, none⟩ = some (.int .i64 x_leave) := by rw [← hw_x_0]; exact box_new _ _ _ 7 _ rfl
  have kx_0_8 : w_x_0.cell? ⟨w.heap.size, 8, none⟩ = some (.int .i64 x_arrive) := by rw [← hw_x_0]; exact box_new _ _ _ 8 _ rfl
  replace H := bind_hid H
  obtain ⟨t_9, qt_9, H⟩ := H
  go_wp2_with fail
  go_at_call 100
  refine (Go.Proofs.Ytlljmgphgmklcaa.GsL8For.C (rates) (x_day) (x_zone) (x_grams) A0 c0 _   (Lib.hid (Cells.below M0.out HBw_x_0.out)) N0 qt_9).mono ?_
  rintro e_t_9 wt_9 ⟨rfl, bt_9⟩
  have HBwt_9 := Lib.hid (Below.step HBw_x_0.out bt_9)
  replace kx_0_0 := cell_below bt_9 kx_0_0
  replace kx_0_1 := cell_below bt_9 kx_0_1
  replace kx_0_2 := cell_below bt_9 kx_0_2
  replace kx_0_3 := cell_below bt_9 kx_0_3
  replace kx_0_4 := cell_below bt_9 kx_0_4
  replace kx_0_5 := cell_below bt_9 kx_0_5
  replace kx_0_6 := cell_below bt_9 kx_0_6
  replace kx_0_7 := cell_below bt_9 kx_0_7
  replace kx_0_8 := cell_below bt_9 kx_0_8
  clear bt_9
  go_wp2_with fail
  have bd2 : Below wt_9.heap.size wt_9 wt_9.drew := (Below.refl _ _).drew
  have HBwt_9.drew := Lib.hid (Below.step HBwt_9.out bd2)
  replace kx_0_0 := cell_below bd2 kx_0_0
  replace kx_0_1 := cell_below bd2 kx_0_1
  replace kx_0_2 := cell_below bd2 kx_0_2
  replace kx_0_3 := cell_below bd2 kx_0_3
  replace kx_0_4 := cell_below bd2 kx_0_4
  replace kx_0_5 := cell_below bd2 kx_0_5
  replace kx_0_6 := cell_below bd2 kx_0_6
  replace kx_0_7 := cell_below bd2 kx_0_7
  replace kx_0_8 := cell_below bd2 kx_0_8
  clear bd2
  replace H := bind_hid H
  obtain ⟨t_16, qt_16, H⟩ := H
  replace H := idx_hid H
  obtain ⟨nt_19, yt_19, et_19, lt_19, gt_19, H⟩ := H
  subst et_19
  refine wp_region_held_drew (S := fun w' => w'.cell? ⟨w.heap.size, 0, none⟩ = some (.int .i64 x_id) ∧ w'.cell? ⟨w.heap.size, 1, none⟩ = some (.int .i64 x_day) ∧ w'.cell? ⟨w.heap.size, 2, none⟩ = some (.int .i64 x_zone) ∧ w'.cell? ⟨w.heap.size, 3, none⟩ = some (.int .i64 x_grams) ∧ w'.cell? ⟨w.heap.size, 4, none⟩ = some (.int .i64 x_paid) ∧ w'.cell? ⟨w.heap.size, 5, none⟩ = some (.int .i64 x_from_) ∧ w'.cell? ⟨w.heap.size, 6, none⟩ = some (.int .i64 (nt_19 : Int)) ∧ w'.cell? ⟨w.heap.size, 7, none⟩ = some (.int .i64 x_leave) ∧ w'.cell? ⟨w.heap.size, 8, none⟩ = some (.int .i64 x_arrive) ∧ Hid (0 ≤ w'.heap.size)) (by kernel_rfl) ⟨kx_0_0, kx_0_1, kx_0_2, kx_0_3, kx_0_4, kx_0_5, kx_0_6, kx_0_7, kx_0_8, Lib.hid (Nat.zero_le _)⟩ (fun hHeld => ?_)
  refine wpAnyH_take (i := 0) (oi := _) (v := ?_) rfl (by kernel_rfl) (by kernel_rfl) (by kernel_rfl) (fun _ _ _ h => h) (Or.inl ⟨by rfl, ?_⟩) (by assumption) ?_
  rotate_left
  · intro w hSw
    (try dsimp only at hSw)
    (try simp only [List.getElem_toArray, List.getElem_cons_zero, List.getElem_cons_succ])
    go_simp
    (try with_reducible rfl)
  try simp only [Act.put, List.getElem_toArray, List.getElem_cons_zero, List.getElem_cons_succ, List.setIfInBounds_toArray, List.set_cons_zero, List.set_cons_succ]
  refine wpAnyH_take (i := 1) (oi := _) (v := ?_) rfl (by kernel_rfl) (by kernel_rfl) (by kernel_rfl) (fun _ _ _ h => h) (Or.inl ⟨by rfl, ?_⟩) (by assumption) ?_
  rotate_left
  · intro w hSw
    (try dsimp only at hSw)
    (try simp only [List.getElem_toArray, List.getElem_cons_zero, List.getElem_cons_succ])
    go_simp
    (try with_reducible rfl)
  try simp only [Act.put, List.getElem_toArray, List.getElem_cons_zero, List.getElem_cons_succ, List.setIfInBounds_toArray, List.set_cons_zero, List.set_cons_succ]
  refine wpAnyH_take (i := 2) (oi := _) (v := ?_) rfl (by kernel_rfl) (by kernel_rfl) (by kernel_rfl) (fun _ _ _ h => h) (Or.inl ⟨by rfl, ?_⟩) (by assumption) ?_
  rotate_left
  · intro w hSw
    (try dsimp only at hSw)
    (try simp only [List.getElem_toArray, List.getElem_cons_zero, List.getElem_cons_succ])
    go_simp
    (try with_reducible rfl)
  try simp only [Act.put, List.getElem_toArray, List.getElem_cons_zero, List.getElem_cons_succ, List.setIfInBounds_toArray, List.set_cons_zero, List.set_cons_succ]
  refine wpAnyH_take (i := 3) (oi := _) (v := ?_) rfl (by kernel_rfl) (by kernel_rfl) (by kernel_rfl) (fun _ _ _ h => h) (Or.inl ⟨by rfl, ?_⟩) (by assumption) ?_
  rotate_left
  · intro w hSw
    (try dsimp only at hSw)
    (try simp only [List.getElem_toArray, List.getElem_cons_zero, List.getElem_cons_succ])
    go_simp
    (try with_reducible rfl)
  try simp only [Act.put, List.getElem_toArray, List.getElem_cons_zero, List.getElem_cons_succ, List.setIfInBounds_toArray, List.set_cons_zero, List.set_cons_succ]
  refine wpAnyH_take (i := 4) (oi := _) (v := ?_) rfl (by kernel_rfl) (by kernel_rfl) (by kernel_rfl) (fun _ _ _ h => h) (Or.inl ⟨by rfl, ?_⟩) (by assumption) ?_
  rotate_left
  · intro w hSw
    (try dsimp only at hSw)
    (try simp only [List.getElem_toArray, List.getElem_cons_zero, List.getElem_cons_succ])
    go_simp
    (try with_reducible rfl)
  try simp only [Act.put, List.getElem_toArray, List.getElem_cons_zero, List.getElem_cons_succ, List.setIfInBounds_toArray, List.set_cons_zero, List.set_cons_succ]
  refine wpAnyH_take (i := 6) (oi := _) (v := ?_) rfl (by kernel_rfl) (by kernel_rfl) (by kernel_rfl) (fun _ _ _ h => h) (Or.inl ⟨by rfl, ?_⟩) (by assumption) ?_
  rotate_left
  · intro w hSw
    (try dsimp only at hSw)
    (try simp only [List.getElem_toArray, List.getElem_cons_zero, List.getElem_cons_succ])
    go_simp
    (try with_reducible rfl)
  try simp only [Act.put, List.getElem_toArray, List.getElem_cons_zero, List.getElem_cons_succ, List.setIfInBounds_toArray, List.set_cons_zero, List.set_cons_succ]
  refine wpAnyH_take (i := 7) (oi := _) (v := ?_) rfl (by kernel_rfl) (by kernel_rfl) (by kernel_rfl) (fun _ _ _ h => h) (Or.inl ⟨by rfl, ?_⟩) (by assumption) ?_
  rotate_left
  · intro w hSw
    (try dsimp only at hSw)
    (try simp only [List.getElem_toArray, List.getElem_cons_zero, List.getElem_cons_succ])
    go_simp
    (try with_reducible rfl)
  try simp only [Act.put, List.getElem_toArray, List.getElem_cons_zero, List.getElem_cons_succ, List.setIfInBounds_toArray, List.set_cons_zero, List.set_cons_succ]
  refine wpAnyH_ready (rs := [5]) (by kernel_rfl) (by simp) ?_
  refine AllReadyH.cons (o := _) rfl (fun K_ hK_ => ?_) AllReadyH.nil
  (try simp only [List.getElem_toArray, List.getElem_cons_zero, List.getElem_cons_succ])
  go_simp
  go_at_call 145
  refine (Go.Proofs.Ytlljmgphgmklcaa.GsL9Times.C (mails) (x_from_) (x_leave) A1 c1 _   (Lib.hid (Cells.below M1.out HBwt_9.drew.out)) N1 qt_16).mono ?_
  rintro e_t_16 wt_16 ⟨At_16, ct_16, rfl, ot_16, bt_16⟩
  have Dt_16_x_0 := Lib.hid (apart_callbox ot_16 kx_0_0)
  have Ot_16 := Lib.hid (own_lower ot_16 HBwt_9.drew.out.size)
  clear ot_16
  have HBwt_16 := Lib.hid (Below.step HBwt_9.drew.out bt_16)
  replace kx_0_0 := cell_below bt_16 kx_0_0
  replace kx_0_1 := cell_below bt_16 kx_0_1
  replace kx_0_2 := cell_below bt_16 kx_0_2
  replace kx_0_3 := cell_below bt_16 kx_0_3
  replace kx_0_4 := cell_below bt_16 kx_0_4
  replace kx_0_5 := cell_below bt_16 kx_0_5
  replace kx_0_6 := cell_below bt_16 kx_0_6
  replace kx_0_7 := cell_below bt_16 kx_0_7
  replace kx_0_8 := cell_below bt_16 kx_0_8
  clear bt_16
  clear qt_16
  first | refine hK_.out _ _ ⟨kx_0_0, kx_0_1, kx_0_2, kx_0_3, kx_0_4, kx_0_5, kx_0_6, kx_0_7, kx_0_8, Lib.hid (Nat.zero_le _)⟩ (fun hHeld => ?_) | (go_wp2_with fail; refine hK_.out _ _ ⟨kx_0_0, kx_0_1, kx_0_2, kx_0_3, kx_0_4, kx_0_5, kx_0_6, kx_0_7, kx_0_8, Lib.hid (Nat.zero_le _)⟩ (fun hHeld => ?_))
  clear hK_ K_
  try simp only [Act.put, List.getElem_toArray, List.getElem_cons_zero, List.getElem_cons_succ, List.setIfInBounds_toArray, List.set_cons_zero, List.set_cons_succ]
  obtain ⟨qt_19, Qt_19⟩ := own_some Ot_16.out (by omega)
  subst Qt_19
  obtain ⟨ab_t_19, ao_t_19, zt_19, At_19, z_t_19, ct_19_0⟩ := Go.Proofs.Ytlljmgphgmklcaa.HelpInt.Ints.at_ (own_cells Ot_16.out) (k := nt_19) (by omega)
  obtain rfl := Option.some.inj (gt_19.out.symm.trans z_t_19)
  simp only [Option.some.injEq, Addr.mk.injEq] at At_19
  obtain ⟨rfl, rfl, _⟩ := At_19
  clear z_t_19
  simp only [Nat.zero_add] at ct_19_0
  have b0t_19 : (0 : Int) ≤ (nt_19 : Int) := by omega
  have b1t_19 : (nt_19 : Int) < ((t_16.length : Nat) : Int) := by omega
  have b2t_19 : ((nt_19 : Int)).toNat = nt_19 := by omega
  refine wpAnyH_take (i := 8) (oi := _) (v := ?_) rfl (by kernel_rfl) (by kernel_rfl) (by kernel_rfl) (fun _ _ _ h => h) (Or.inl ⟨by rfl, ?_⟩) (by assumption) ?_
  rotate_left
  · intro w hSw
    (try dsimp only at hSw)
    (try simp only [List.getElem_toArray, List.getElem_cons_zero, List.getElem_cons_succ])
    go_simp
    (try with_reducible rfl)
  try simp only [Act.put, List.getElem_toArray, List.getElem_cons_zero, List.getElem_cons_succ, List.setIfInBounds_toArray, List.set_cons_zero, List.set_cons_succ]
  refine Go.Proofs.Ytlljmgphgmklcaa.GoR.wpAnyH_more (S' := fun w' => w'.cell? ⟨w.heap.size, 0, none⟩ = some (.int .i64 x_id) ∧ w'.cell? ⟨w.heap.size, 1, none⟩ = some (.int .i64 x_day) ∧ w'.cell? ⟨w.heap.size, 2, none⟩ = some (.int .i64 x_zone) ∧ w'.cell? ⟨w.heap.size, 3, none⟩ = some (.int .i64 x_grams) ∧ w'.cell? ⟨w.heap.size, 4, none⟩ = some (.int .i64 x_paid) ∧ w'.cell? ⟨w.heap.size, 5, none⟩ = some (.int .i64 x_from_) ∧ w'.cell? ⟨w.heap.size, 6, none⟩ = some (.int .i64 (nt_19 : Int)) ∧ w'.cell? ⟨w.heap.size, 7, none⟩ = some (.int .i64 x_leave) ∧ w'.cell? ⟨w.heap.size, 8, none⟩ = some (.int .i64 x_arrive) ∧ w'.cell? ⟨qt_19, nt_19, none⟩ = some (.int .i64 yt_19) ∧ Hid (0 ≤ w'.heap.size)) (fun w' hS_ => ?_) _ _ _ _ ?_
  · go_split_ands; (repeat' apply And.intro) <;> first | assumption | exact Lib.hid (Nat.zero_le _)
  have hHeld : (fun w' => w'.cell? ⟨w.heap.size, 0, none⟩ = some (.int .i64 x_id) ∧ w'.cell? ⟨w.heap.size, 1, none⟩ = some (.int .i64 x_day) ∧ w'.cell? ⟨w.heap.size, 2, none⟩ = some (.int .i64 x_zone) ∧ w'.cell? ⟨w.heap.size, 3, none⟩ = some (.int .i64 x_grams) ∧ w'.cell? ⟨w.heap.size, 4, none⟩ = some (.int .i64 x_paid) ∧ w'.cell? ⟨w.heap.size, 5, none⟩ = some (.int .i64 x_from_) ∧ w'.cell? ⟨w.heap.size, 6, none⟩ = some (.int .i64 (nt_19 : Int)) ∧ w'.cell? ⟨w.heap.size, 7, none⟩ = some (.int .i64 x_leave) ∧ w'.cell? ⟨w.heap.size, 8, none⟩ = some (.int .i64 x_arrive) ∧ w'.cell? ⟨qt_19, nt_19, none⟩ = some (.int .i64 yt_19) ∧ Hid (0 ≤ w'.heap.size)) wt_16 := ⟨kx_0_0, kx_0_1, kx_0_2, kx_0_3, kx_0_4, kx_0_5, kx_0_6, kx_0_7, kx_0_8, ct_19_0, Lib.hid (Nat.zero_le _)⟩
  refine wpAnyH_take (i := 9) (oi := _) (v := ?_) rfl (by kernel_rfl) (by kernel_rfl) (by kernel_rfl) (fun _ _ _ h => h) (Or.inl ⟨by rfl, ?_⟩) (by assumption) ?_
  rotate_left
  · intro w hSw
    (try dsimp only at hSw)
    (try simp only [List.getElem_toArray, List.getElem_cons_zero, List.getElem_cons_succ])
    go_simp
    (try with_reducible rfl)
  try simp only [Act.put, List.getElem_toArray, List.getElem_cons_zero, List.getElem_cons_succ, List.setIfInBounds_toArray, List.set_cons_zero, List.set_cons_succ]
  refine wpAnyH_take (i := 10) (oi := _) (v := ?_) rfl (by kernel_rfl) (by kernel_rfl) (by kernel_rfl) (fun _ _ _ h => h) (Or.inl ⟨by rfl, ?_⟩) (by assumption) ?_
  rotate_left
  · intro w hSw
    (try dsimp only at hSw)
    (try simp only [List.getElem_toArray, List.getElem_cons_zero, List.getElem_cons_succ])
    go_simp
    (try with_reducible rfl)
  try simp only [Act.put, List.getElem_toArray, List.getElem_cons_zero, List.getElem_cons_succ, List.setIfInBounds_toArray, List.set_cons_zero, List.set_cons_succ]
  refine wpAnyH_done (by kernel_rfl) ?_ _
  replace H := let_hid H
  obtain ⟨t_23, ht_23, H⟩ := H
  cases t_23 with
  | false =>
    replace H := ite_f H
    replace H := let_hid H
    obtain ⟨t_29, ht_29, H⟩ := H
    cases t_29 with
    | false =>
      replace H := ite_f H
      replace H := let_hid H
      obtain ⟨t_35, ht_35, H⟩ := H
      replace H := let_hid H
      obtain ⟨t_36, ht_36, H⟩ := H
      cases t_36 with
      | false =>
        replace H := ite_f H
        replace H := let_hid H
        obtain ⟨t_40, ht_40, H⟩ := H
        cases t_40 with
        | false =>
          replace H := ite_f H
          replace H := let_hid H
          obtain ⟨t_46, ht_46, H⟩ := H
          cases t_46 with
          | false =>
            replace H := ite_f H
            obtain rfl := ret_hid H
            go_wp2_with fail
            go_ret
            exact ⟨rfl, HBwt_16.out⟩
          | true =>
            replace H := ite_t H
            obtain rfl := ret_hid H
            go_wp2_with fail
            go_ret
            exact ⟨rfl, HBwt_16.out⟩
        | true =>
          replace H := ite_t H
          obtain rfl := ret_hid H
          go_wp2_with fail
          go_ret
          exact ⟨rfl, HBwt_16.out⟩
      | true =>
        replace H := ite_t H
        obtain rfl := ret_hid H
        go_wp2_with fail
        go_ret
        exact ⟨rfl, HBwt_16.out⟩
    | true =>
      replace H := ite_t H
      obtain rfl := ret_hid H
      go_wp2_with fail
      go_ret
      exact ⟨rfl, HBwt_16.out⟩
  | true =>
    replace H := ite_t H
    obtain rfl := ret_hid H
    go_wp2_with fail
    go_ret
    exact ⟨rfl, HBwt_16.out⟩
end Go.Proofs.Ytlljmgphgmklcaa.GsL10Fault

/- loop.example/g01062/spec.FaultOf as a plain function, and the contract of the program's: where the plain one has an answer, the program has it. Conditions: slices read as lists. -/
namespace Go.Proofs.Ytlljmgphgmklcaa.GsFaultOf
set_option linter.unusedVariables false
set_option linter.unusedSimpArgs false
open Go.RowKit
open Go.Proofs.Ytlljmgphgmklcaa.Rowed Go.Proofs.Ytlljmgphgmklcaa.Turn Go.Proofs.Ytlljmgphgmklcaa.Aid Go.Proofs.Ytlljmgphgmklcaa.GoP Go.Proofs.Ytlljmgphgmklcaa.GoM

def P (fuel : Nat) (rates : (List Go.Proofs.Ytlljmgphgmklcaa.PRate.Rate)) (mails : (List Go.Proofs.Ytlljmgphgmklcaa.PMail.Mail)) (x : Go.Proofs.Ytlljmgphgmklcaa.PCover.Cover) : Option (Int × Bool) :=
  unCover x fun (x_id : Int) (x_day : Int) (x_zone : Int) (x_grams : Int) (x_paid : Int) (x_from_ : Int) (x_to_ : Int) (x_leave : Int) (x_arrive : Int) =>
  Option.bind (Go.Proofs.Ytlljmgphgmklcaa.GsL8Good.P fuel rates) fun (t_4 : Bool) =>
  letK (!t_4) fun (t_5 : Bool) =>
  joinK (fun (t_10 : Bool) =>
  joinK (fun (t_15 : Bool) =>
  iteK t_15
  (some (0, false))
  (Option.bind (Go.Proofs.Ytlljmgphgmklcaa.GsL10Fault.P rates mails (Go.Proofs.Ytlljmgphgmklcaa.PCover.Cover.mk x_id x_day x_zone x_grams x_paid x_from_ x_to_ x_leave x_arrive)) fun (t_21 : Int) =>
  some (t_21, true))) fun jt_15 => iteK t_10 (appK jt_15 true) (Option.bind (Go.Proofs.Ytlljmgphgmklcaa.GsL10One.P (Go.Proofs.Ytlljmgphgmklcaa.PCover.Cover.mk x_id x_day x_zone x_grams x_paid x_from_ x_to_ x_leave x_arrive)) fun (t_13 : Bool) =>
  letK (!t_13) fun (t_14 : Bool) =>
  appK jt_15 t_14)) fun jt_10 => iteK t_5 (appK jt_10 true) (Option.bind (Go.Proofs.Ytlljmgphgmklcaa.GsL9Good.P mails) fun (t_8 : Bool) =>
  letK (!t_8) fun (t_9 : Bool) =>
  appK jt_10 t_9)

set_option maxRecDepth 100000 in
set_option maxHeartbeats 2000000 in
theorem C (fuel : Nat) (rates : (List Go.Proofs.Ytlljmgphgmklcaa.PRate.Rate)) (mails : (List Go.Proofs.Ytlljmgphgmklcaa.PMail.Mail)) (x : Go.Proofs.Ytlljmgphgmklcaa.PCover.Cover) (A0 : Option Addr) (c0 : Nat) (A1 : Option Addr) (c1 : Nat)  (w : World) (M0 : Hid (Cells w 5 A0 rates.length (Go.Proofs.Ytlljmgphgmklcaa.PRate.flat rates))) (N0 : Hid (rates.length ≤ 9223372036854775807)) (M1 : Hid (Cells w 4 A1 mails.length (Go.Proofs.Ytlljmgphgmklcaa.PMail.flat mails))) (N1 : Hid (mails.length ≤ 9223372036854775807))  {r0 : Int} {r1 : Bool} (H : Hid (P fuel rates mails x = some (r0, r1))) :
    Calls Try.prog 26 #[.slice A0 rates.length c0, .slice A1 mails.length c1, x.val] w (Gives (.tuple #[.int .i64 r0, .bool r1]) w) := by
  have HB := Lib.hid (Below.refl w.heap.size w)
  unfold P at H
  obtain ⟨x_id, x_day, x_zone, x_grams, x_paid, x_from_, x_to_, x_leave, x_arrive⟩ := x
  replace H := unCover_hid H
  unfold Go.Proofs.Ytlljmgphgmklcaa.PCover.Cover.val
  have N0o := N0.out
  have N1o := N1.out
  go_enter Try.func26, Try.ntmps26
  obtain ⟨w_x_0, hw_x_0⟩ : ∃ x, w.alloc (.cells #[.int .i64 x_id, .int .i64 x_day, .int .i64 x_zone, .int .i64 x_grams, .int .i64 x_paid, .int .i64 x_from_, .int .i64 x_to_, .int .i64 x_leave, .int .i64 x_arrive] 25) = x := ⟨_, rfl⟩
  have bw_x_0 : Below w.heap.size w w_x_0 := by rw [← hw_x_0]; exact (Below.refl _ _).alloc (Nat.le_refl _) _
  have HBw_x_0 := Lib.hid (Below.step HB.out bw_x_0)
  clear bw_x_0
  have kx_0_0 : w_x_0.cell? ⟨w.heap.size, 0, none⟩ = some (.int .i64 x_id) := by rw [← hw_x_0]; exact box_new _ _ _ 0 _ rfl
  have kx_0_1 : w_x_0.cell? ⟨w.heap.size, 1, none⟩ = some (.int .i64 x_day) := by rw [← hw_x_0]; exact box_new _ _ _ 1 _ rfl
  have kx_0_2 : w_x_0.cell? ⟨w.heap.size, 2, none⟩ = some (.int .i64 x_zone) := by rw [← hw_x_0]; exact box_new _ _ _ 2 _ rfl
  have kx_0_3 : w_x_0.cell? ⟨w.heap.size, 3, none⟩ = some (.int .i64 x_grams) := by rw [← hw_x_0]; exact box_new _ _ _ 3 _ rfl
  have kx_0_4 : w_x_0.cell? ⟨w.heap.size, 4, none⟩ = some (.int .i64 x_paid) := by rw [← hw_x_0]; exact box_new _ _ _ 4 _ rfl
  have kx_0_5 : w_x_0.cell? ⟨w.heap.size, 5, none⟩ = some (.int .i64 x_from_) := by rw [← hw_x_0]; exact box_new _ _ _ 5 _ rfl
  have kx_0_6 : w_x_0.cell? ⟨w.heap.size, 6, none⟩ = some (.int .i64 x_to_) := by rw [← hw_x_0]; exact box_new _ _ _ 6 _ rfl
  have kx_0_7 : w_x_0.cell? ⟨w.heap.size, 7, none⟩ = some (.int .i64 x_leave) := by rw [← hw_x_0]; exact box_new _ _ _ 7 _ rfl
  have kx_0_8 : w_x_0.cell? ⟨w.heap.size, 8, none⟩ = some (.int .i64 x_arrive) := by rw [← hw_x_0]; exact box_new _ _ _ 8 _ rfl
  replace H := bind_hid H
  obtain ⟨t_4, qt_4, H⟩ := H
  go_wp2_with fail
  go_at_call 89
  refine (Go.Proofs.Ytlljmgphgmklcaa.GsL8Good.C fuel (rates) A0 c0 _   (Lib.hid (Cells.below M0.out HBw_x_0.out)) N0 qt_4).mono ?_
  rintro e_t_4 wt_4 ⟨rfl, bt_4⟩
  have HBwt_4 := Lib.hid (Below.step HBw_x_0.out bt_4)
  replace kx_0_0 := cell_below bt_4 kx_0_0
  replace kx_0_1 := cell_below bt_4 kx_0_1
  replace kx_0_2 := cell_below bt_4 kx_0_2
  replace kx_0_3 := cell_below bt_4 kx_0_3
  replace kx_0_4 := cell_below bt_4 kx_0_4
  replace kx_0_5 := cell_below bt_4 kx_0_5
  replace kx_0_6 := cell_below bt_4 kx_0_6
  replace kx_0_7 := cell_below bt_4 kx_0_7
  replace kx_0_8 := cell_below bt_4 kx_0_8
  clear bt_4
  cases t_4 with
  | false =>
    replace H := let_hid H
    obtain ⟨t_5, ht_5, H⟩ := H
    obtain rfl : t_5 = true := ht_5.symm
    replace H := join_hid H
    replace H := ite_t H
    replace H := app_hid H
    replace H := join_hid H
    replace H := ite_t H
    replace H := app_hid H
    replace H := ite_t H
    cases ret_hid H
    go_wp2_with fail
    go_ret2
    exact ⟨rfl, HBwt_4.out⟩
  | true =>
    replace H := let_hid H
    obtain ⟨t_5, ht_5, H⟩ := H
    obtain rfl : t_5 = false := ht_5.symm
    replace H := join_hid H
    replace H := ite_f H
    replace H := bind_hid H
    obtain ⟨t_8, qt_8, H⟩ := H
    go_wp2_with fail
    go_at_call 90
    refine (Go.Proofs.Ytlljmgphgmklcaa.GsL9Good.C (mails) A1 c1 _   (Lib.hid (Cells.below M1.out HBwt_4.out)) N1 qt_8).mono ?_
    rintro e_t_8 wt_8 ⟨rfl, bt_8⟩
    have HBwt_8 := Lib.hid (Below.step HBwt_4.out bt_8)
    replace kx_0_0 := cell_below bt_8 kx_0_0
    replace kx_0_1 := cell_below bt_8 kx_0_1
    replace kx_0_2 := cell_below bt_8 kx_0_2
    replace kx_0_3 := cell_below bt_8 kx_0_3
    replace kx_0_4 := cell_below bt_8 kx_0_4
    replace kx_0_5 := cell_below bt_8 kx_0_5
    replace kx_0_6 := cell_below bt_8 kx_0_6
    replace kx_0_7 := cell_below bt_8 kx_0_7
    replace kx_0_8 := cell_below bt_8 kx_0_8
    clear bt_8
    cases t_8 with
    | false =>
      replace H := let_hid H
      obtain ⟨t_9, ht_9, H⟩ := H
      obtain rfl : t_9 = true := ht_9.symm
      replace H := app_hid H
      replace H := join_hid H
      replace H := ite_t H
      replace H := app_hid H
      replace H := ite_t H
      cases ret_hid H
      go_wp2_with fail
      go_ret2
      exact ⟨rfl, HBwt_8.out⟩
    | true =>
      replace H := let_hid H
      obtain ⟨t_9, ht_9, H⟩ := H
      obtain rfl : t_9 = false := ht_9.symm
      replace H := app_hid H
      replace H := join_hid H
      replace H := ite_f H
      replace H := bind_hid H
      obtain ⟨t_13, qt_13, H⟩ := H
      go_wp2_with fail
      go_at_call 77
      refine (Go.Proofs.Ytlljmgphgmklcaa.GsL10One.C ((Go.Proofs.Ytlljmgphgmklcaa.PCover.Cover.mk x_id x_day x_zone x_grams x_paid x_from_ x_to_ x_leave x_arrive))  _    qt_13).mono ?_
      rintro e_t_13 wt_13 ⟨rfl, bt_13⟩
      have HBwt_13 := Lib.hid (Below.step HBwt_8.out bt_13)
      replace kx_0_0 := cell_below bt_13 kx_0_0
      replace kx_0_1 := cell_below bt_13 kx_0_1
      replace kx_0_2 := cell_below bt_13 kx_0_2
      replace kx_0_3 := cell_below bt_13 kx_0_3
      replace kx_0_4 := cell_below bt_13 kx_0_4
      replace kx_0_5 := cell_below bt_13 kx_0_5
      replace kx_0_6 := cell_below bt_13 kx_0_6
      replace kx_0_7 := cell_below bt_13 kx_0_7
      replace kx_0_8 := cell_below bt_13 kx_0_8
      clear bt_13
      cases t_13 with
      | false =>
        replace H := let_hid H
        obtain ⟨t_14, ht_14, H⟩ := H
        obtain rfl : t_14 = true := ht_14.symm
        replace H := app_hid H
        replace H := ite_t H
        cases ret_hid H
        go_wp2_with fail
        go_ret2
        exact ⟨rfl, HBwt_13.out⟩
      | true =>
        replace H := let_hid H
        obtain ⟨t_14, ht_14, H⟩ := H
        obtain rfl : t_14 = false := ht_14.symm
        replace H := app_hid H
        replace H := ite_f H
        replace H := bind_hid H
        obtain ⟨t_21, qt_21, H⟩ := H
        go_wp2_with fail
        go_at_call 91
        refine (Go.Proofs.Ytlljmgphgmklcaa.GsL10Fault.C (rates) (mails) ((Go.Proofs.Ytlljmgphgmklcaa.PCover.Cover.mk x_id x_day x_zone x_grams x_paid x_from_ x_to_ x_leave x_arrive)) A0 c0 A1 c1 _   (Lib.hid (Cells.below M0.out HBwt_13.out)) N0 (Lib.hid (Cells.below M1.out HBwt_13.out)) N1 qt_21).mono ?_
        rintro e_t_21 wt_21 ⟨rfl, bt_21⟩
        have HBwt_21 := Lib.hid (Below.step HBwt_13.out bt_21)
        replace kx_0_0 := cell_below bt_21 kx_0_0
        replace kx_0_1 := cell_below bt_21 kx_0_1
        replace kx_0_2 := cell_below bt_21 kx_0_2
        replace kx_0_3 := cell_below bt_21 kx_0_3
        replace kx_0_4 := cell_below bt_21 kx_0_4
        replace kx_0_5 := cell_below bt_21 kx_0_5
        replace kx_0_6 := cell_below bt_21 kx_0_6
        replace kx_0_7 := cell_below bt_21 kx_0_7
        replace kx_0_8 := cell_below bt_21 kx_0_8
        clear bt_21
        cases ret_hid H
        go_wp2_with fail
        go_ret2
        exact ⟨rfl, HBwt_21.out⟩
end Go.Proofs.Ytlljmgphgmklcaa.GsFaultOf

/- loop.example/g01062/impl.AreRates as a plain function, and the contract of the program's: where the plain one has an answer, the program has it. Conditions: slices read as lists. -/
namespace Go.Proofs.Ytlljmgphgmklcaa.GiAreRates
set_option linter.unusedVariables false
set_option linter.unusedSimpArgs false
open Go.RowKit
open Go.Proofs.Ytlljmgphgmklcaa.Rowed Go.Proofs.Ytlljmgphgmklcaa.Turn Go.Proofs.Ytlljmgphgmklcaa.Aid Go.Proofs.Ytlljmgphgmklcaa.GoP Go.Proofs.Ytlljmgphgmklcaa.GoM

def l0 (list : (List Go.Proofs.Ytlljmgphgmklcaa.PRate.Rate)) (k0 : Nat) (s : Unit) (nx0 bk0 : Unit → Option (Bool)) : Option (Bool) :=
  
  Option.bind (idx list (k0 : Int)) fun (yt_10 : Go.Proofs.Ytlljmgphgmklcaa.PRate.Rate) =>
  unRate yt_10 fun (t_10_zone : Int) (t_10_grams : Int) (t_10_from_ : Int) (t_10_until_ : Int) (t_10_cents : Int) =>
  Option.bind (Go.Proofs.Ytlljmgphgmklcaa.GiIsRate.P (Go.Proofs.Ytlljmgphgmklcaa.PRate.Rate.mk t_10_zone t_10_grams t_10_from_ t_10_until_ t_10_cents)) fun (t_16 : Bool) =>
  letK (!t_16) fun (t_17 : Bool) =>
  joinK (fun (t_31 : Bool) =>
  iteK t_31
  (some false)
  (appK nx0 ())) fun jt_31 => iteK t_17 (appK jt_31 true) (letK (decide (0 < (k0 : Int))) fun (t_20 : Bool) =>
  joinK (fun (t_30 : Bool) =>
  appK jt_31 t_30) fun jt_30 => iteK t_20 (letK (IntKind.i64.wrap ((k0 : Int) - 1)) fun (t_25 : Int) =>
  Option.bind (idx list t_25) fun (yt_26 : Go.Proofs.Ytlljmgphgmklcaa.PRate.Rate) =>
  unRate yt_26 fun (t_26_zone : Int) (t_26_grams : Int) (t_26_from_ : Int) (t_26_until_ : Int) (t_26_cents : Int) =>
  Option.bind (Go.Proofs.Ytlljmgphgmklcaa.GiCanFollow.P (Go.Proofs.Ytlljmgphgmklcaa.PRate.Rate.mk t_10_zone t_10_grams t_10_from_ t_10_until_ t_10_cents) (Go.Proofs.Ytlljmgphgmklcaa.PRate.Rate.mk t_26_zone t_26_grams t_26_from_ t_26_until_ t_26_cents)) fun (t_28 : Bool) =>
  letK (!t_28) fun (t_29 : Bool) =>
  appK jt_30 t_29) (appK jt_30 false))

def e0  (s : Unit) : Option (Bool) :=
  
  some true

def P (list : (List Go.Proofs.Ytlljmgphgmklcaa.PRate.Rate)) : Option (Bool) :=
  letK (decide (16 < (list.length : Int))) fun (t_3 : Bool) =>
  iteK t_3
  (some false)
  (cntK (l0 list) (list.length) 0 () (e0 ))

set_option maxRecDepth 100000 in
set_option maxHeartbeats 2000000 in
theorem C (list : (List Go.Proofs.Ytlljmgphgmklcaa.PRate.Rate)) (A0 : Option Addr) (c0 : Nat)  (w : World) (M0 : Hid (Cells w 5 A0 list.length (Go.Proofs.Ytlljmgphgmklcaa.PRate.flat list))) (N0 : Hid (list.length ≤ 9223372036854775807))  {r : Bool} (H : Hid (P list = some r)) :
    Calls Try.prog 67 #[.slice A0 list.length c0] w (Gives (.bool r) w) := by
  have HB := Lib.hid (Below.refl w.heap.size w)
  unfold P at H
  have N0o := N0.out
  go_enter Try.func67, Try.ntmps67
  replace H := let_hid H
  obtain ⟨t_3, ht_3, H⟩ := H
  cases t_3 with
  | false =>
    have nht_3 : ¬ (16 < list.length) := by have := of_decide_eq_false ht_3; omega
    replace H := ite_f H
    go_wp2_with fail
    go_loopg [10] (list.length) (fun m_ v10_ wr => ∃ (k0 : Nat) , k0 + m_ = list.length ∧ v10_ = .int .i64 (k0 : Int) ∧ Hid (cntK (l0 list) m_ k0 () (e0 ) = some r) ∧ Hid (Below w.heap.size w wr))
    case atStart => exact ⟨0, by omega, rfl, H, HB⟩
    case round =>
      obtain ⟨k0, hkm0, rfl, H, HBwr0⟩ := hrel
      rename World => wr0
      cases gk with
      | zero =>
        obtain rfl : k0 = list.length := by omega
        have hc0 : decide (((list.length : Nat) : Int) < ((list.length : Nat) : Int)) = false := by simp
        replace H := cnt_zero H
        unfold e0 at H
        obtain rfl := ret_hid H
        go_wp2_with fail
        go_ret
        exact ⟨rfl, HBwr0.out⟩
      | succ m0 =>
        have hlt0 : k0 < list.length := by omega
        have hc0 : decide ((k0 : Int) < ((list.length : Nat) : Int)) = true := by simp; omega
        replace H := cnt_succ H
        unfold l0 at H
        replace H := idx_hid H
        obtain ⟨nt_10, yt_10, et_10, lt_10, gt_10, H⟩ := H
        obtain rfl : k0 = nt_10 := by omega
        clear et_10
        obtain ⟨t_10_zone, t_10_grams, t_10_from_, t_10_until_, t_10_cents⟩ := yt_10
        replace H := unRate_hid H
        obtain ⟨ab_t_10, ao_t_10, zt_10, At_10, z_t_10, ct_10_0, ct_10_1, ct_10_2, ct_10_3, ct_10_4⟩ := Go.Proofs.Ytlljmgphgmklcaa.ORate.at_ M0.out lt_10
        obtain rfl := Option.some.inj (gt_10.out.symm.trans z_t_10)
        subst At_10
        have ltt_10 := cell_lt ct_10_0
        replace ct_10_0 := cell_below HBwr0.out ct_10_0
        replace ct_10_1 := cell_below HBwr0.out ct_10_1
        replace ct_10_2 := cell_below HBwr0.out ct_10_2
        replace ct_10_3 := cell_below HBwr0.out ct_10_3
        replace ct_10_4 := cell_below HBwr0.out ct_10_4
        clear z_t_10
        have b0t_10 : (0 : Int) ≤ (k0 : Int) := by omega
        have b1t_10 : (k0 : Int) < ((list.length : Nat) : Int) := by omega
        have b2t_10 : ((k0 : Int)).toNat = k0 := by omega
        obtain ⟨w_r_12, hw_r_12⟩ : ∃ x, wr0.alloc (.cells #[.int .i64 t_10_zone, .int .i64 t_10_grams, .int .i64 t_10_from_, .int .i64 t_10_until_, .int .i64 t_10_cents] 104) = x := ⟨_, rfl⟩
        have bw_r_12 : Below wr0.heap.size wr0 w_r_12 := by rw [← hw_r_12]; exact (Below.refl _ _).alloc (Nat.le_refl _) _
        have HBw_r_12 := Lib.hid (Below.step HBwr0.out bw_r_12)
        have ct_10_0__790 := cell_below bw_r_12 ct_10_0
        have ct_10_1__791 := cell_below bw_r_12 ct_10_1
        have ct_10_2__792 := cell_below bw_r_12 ct_10_2
        have ct_10_3__793 := cell_below bw_r_12 ct_10_3
        have ct_10_4__794 := cell_below bw_r_12 ct_10_4
        clear bw_r_12
        have kr_12_0 : w_r_12.cell? ⟨wr0.heap.size, 0, none⟩ = some (.int .i64 t_10_zone) := by rw [← hw_r_12]; exact box_new _ _ _ 0 _ rfl
        have kr_12_1 : w_r_12.cell? ⟨wr0.heap.size, 1, none⟩ = some (.int .i64 t_10_grams) := by rw [← hw_r_12]; exact box_new _ _ _ 1 _ rfl
        have kr_12_2 : w_r_12.cell? ⟨wr0.heap.size, 2, none⟩ = some (.int .i64 t_10_from_) := by rw [← hw_r_12]; exact box_new _ _ _ 2 _ rfl
        have kr_12_3 : w_r_12.cell? ⟨wr0.heap.size, 3, none⟩ = some (.int .i64 t_10_until_) := by rw [← hw_r_12]; exact box_new _ _ _ 3 _ rfl
        have kr_12_4 : w_r_12.cell? ⟨wr0.heap.size, 4, none⟩ = some (.int .i64 t_10_cents) := by rw [← hw_r_12]; exact box_new _ _ _ 4 _ rfl
        go_wp2_with fail
        clear ct_10_0 ct_10_1 ct_10_2 ct_10_3 ct_10_4
        have Hct_10_0__790 := Lib.hid ct_10_0__790
        replace ct_10_0__790 := cell_regrown ct_10_0__790
        have Hct_10_1__791 := Lib.hid ct_10_1__791
        replace ct_10_1__791 := cell_regrown ct_10_1__791
        have Hct_10_2__792 := Lib.hid ct_10_2__792
        replace ct_10_2__792 := cell_regrown ct_10_2__792
        have Hct_10_3__793 := Lib.hid ct_10_3__793
        replace ct_10_3__793 := cell_regrown ct_10_3__793
        have Hct_10_4__794 := Lib.hid ct_10_4__794
        replace ct_10_4__794 := cell_regrown ct_10_4__794
        have Hkr_12_0 := Lib.hid kr_12_0
        replace kr_12_0 := cell_regrown kr_12_0
        have Hkr_12_1 := Lib.hid kr_12_1
        replace kr_12_1 := cell_regrown kr_12_1
        have Hkr_12_2 := Lib.hid kr_12_2
        replace kr_12_2 := cell_regrown kr_12_2
        have Hkr_12_3 := Lib.hid kr_12_3
        replace kr_12_3 := cell_regrown kr_12_3
        have Hkr_12_4 := Lib.hid kr_12_4
        replace kr_12_4 := cell_regrown kr_12_4
        replace H := bind_hid H
        obtain ⟨t_16, qt_16, H⟩ := H
        have nt_16 : ∀ d os, Calls Try.prog 132 #[.agg #[.int .i64 t_10_zone, .int .i64 t_10_grams, .int .i64 t_10_from_, .int .i64 t_10_until_, .int .i64 t_10_cents]] (Go.Sort.grow (redrawn w_r_12 d) os) fun e w'' => e = .returned (.bool t_16) ∧ ∃ p : Regrown, w'' = Go.Sort.grow (redrawn w_r_12 p.d) p.os := fun d os => Calls.regrown_of (Go.Proofs.Ytlljmgphgmklcaa.GiIsRate.C ((Go.Proofs.Ytlljmgphgmklcaa.PRate.Rate.mk t_10_zone t_10_grams t_10_from_ t_10_until_ t_10_cents))  _    qt_16)
        cases t_16 with
        | false =>
          replace H := let_hid H
          obtain ⟨t_17, ht_17, H⟩ := H
          obtain rfl : t_17 = true := ht_17.symm
          replace H := join_hid H
          replace H := ite_t H
          replace H := app_hid H
          refine wp_region_quiet_below (by kernel_rfl) (by kernel_rfl) ?_
          repeat (go_big_quiet_step (first | (go_at_call 132; exact nt_16 _ _)))
          refine wpQuiet_nil ?_
          intro Y6 hY6
          replace hY6 := below_class hY6
          clear nt_16
          replace ct_10_0__790 := Hct_10_0__790.out
          clear Hct_10_0__790
          replace ct_10_1__791 := Hct_10_1__791.out
          clear Hct_10_1__791
          replace ct_10_2__792 := Hct_10_2__792.out
          clear Hct_10_2__792
          replace ct_10_3__793 := Hct_10_3__793.out
          clear Hct_10_3__793
          replace ct_10_4__794 := Hct_10_4__794.out
          clear Hct_10_4__794
          replace kr_12_0 := Hkr_12_0.out
          clear Hkr_12_0
          replace kr_12_1 := Hkr_12_1.out
          clear Hkr_12_1
          replace kr_12_2 := Hkr_12_2.out
          clear Hkr_12_2
          replace kr_12_3 := Hkr_12_3.out
          clear Hkr_12_3
          replace kr_12_4 := Hkr_12_4.out
          clear Hkr_12_4
          have HBY6 := Lib.hid (Below.step HBw_r_12.out hY6)
          replace ct_10_0__790 := cell_below hY6 ct_10_0__790
          replace ct_10_1__791 := cell_below hY6 ct_10_1__791
          replace ct_10_2__792 := cell_below hY6 ct_10_2__792
          replace ct_10_3__793 := cell_below hY6 ct_10_3__793
          replace ct_10_4__794 := cell_below hY6 ct_10_4__794
          replace kr_12_0 := cell_below hY6 kr_12_0
          replace kr_12_1 := cell_below hY6 kr_12_1
          replace kr_12_2 := cell_below hY6 kr_12_2
          replace kr_12_3 := cell_below hY6 kr_12_3
          replace kr_12_4 := cell_below hY6 kr_12_4
          clear hY6
          replace H := ite_t H
          obtain rfl := ret_hid H
          go_wp2_with fail
          go_ret
          exact ⟨rfl, HBY6.out⟩
        | true =>
          replace H := let_hid H
          obtain ⟨t_17, ht_17, H⟩ := H
          obtain rfl : t_17 = false := ht_17.symm
          replace H := join_hid H
          replace H := ite_f H
          replace H := let_hid H
          obtain ⟨t_20, ht_20, H⟩ := H
          replace H := join_hid H
          cases t_20 with
          | false =>
            have nht_20 : ¬ (0 < k0) := by have := of_decide_eq_false ht_20; omega
            replace H := ite_f H
            replace H := app_hid H
            replace H := app_hid H
            refine wp_region_quiet_below (by kernel_rfl) (by kernel_rfl) ?_
            repeat (go_big_quiet_step (first | (go_at_call 132; exact nt_16 _ _)))
            refine wpQuiet_nil ?_
            intro Y6 hY6
            replace hY6 := below_class hY6
            clear nt_16
            replace ct_10_0__790 := Hct_10_0__790.out
            clear Hct_10_0__790
            replace ct_10_1__791 := Hct_10_1__791.out
            clear Hct_10_1__791
            replace ct_10_2__792 := Hct_10_2__792.out
            clear Hct_10_2__792
            replace ct_10_3__793 := Hct_10_3__793.out
            clear Hct_10_3__793
            replace ct_10_4__794 := Hct_10_4__794.out
            clear Hct_10_4__794
            replace kr_12_0 := Hkr_12_0.out
            clear Hkr_12_0
            replace kr_12_1 := Hkr_12_1.out
            clear Hkr_12_1
            replace kr_12_2 := Hkr_12_2.out
            clear Hkr_12_2
            replace kr_12_3 := Hkr_12_3.out
            clear Hkr_12_3
            replace kr_12_4 := Hkr_12_4.out
            clear Hkr_12_4
            have HBY6 := Lib.hid (Below.step HBw_r_12.out hY6)
            replace ct_10_0__790 := cell_below hY6 ct_10_0__790
            replace ct_10_1__791 := cell_below hY6 ct_10_1__791
            replace ct_10_2__792 := cell_below hY6 ct_10_2__792
            replace ct_10_3__793 := cell_below hY6 ct_10_3__793
            replace ct_10_4__794 := cell_below hY6 ct_10_4__794
            replace kr_12_0 := cell_below hY6 kr_12_0
            replace kr_12_1 := cell_below hY6 kr_12_1
            replace kr_12_2 := cell_below hY6 kr_12_2
            replace kr_12_3 := cell_below hY6 kr_12_3
            replace kr_12_4 := cell_below hY6 kr_12_4
            clear hY6
            replace H := ite_f H
            replace H := app_hid H
            go_wp2_with fail
            go_roundg m0
            case measure => omega
            case rel => exact ⟨k0 + 1, by omega, by go_num, H, HBY6⟩
          | true =>
            have nht_20 : 0 < k0 := by have := of_decide_eq_true ht_20; omega
            replace H := ite_t H
            replace H := let_hid H
            obtain ⟨t_25, ht_25, H⟩ := H
            replace H := idx_hid H
            obtain ⟨nt_26, yt_26, et_26, lt_26, gt_26, H⟩ := H
            subst et_26
            obtain ⟨t_26_zone, t_26_grams, t_26_from_, t_26_until_, t_26_cents⟩ := yt_26
            replace H := unRate_hid H
            obtain ⟨ab_t_26, ao_t_26, zt_26, At_26, z_t_26, ct_26_0, ct_26_1, ct_26_2, ct_26_3, ct_26_4⟩ := Go.Proofs.Ytlljmgphgmklcaa.ORate.at_ M0.out lt_26
            obtain rfl := Option.some.inj (gt_26.out.symm.trans z_t_26)
            simp only [Option.some.injEq, Addr.mk.injEq] at At_26
            obtain ⟨rfl, rfl, _⟩ := At_26
            have ltt_26 := cell_lt ct_26_0
            replace ct_26_0 := cell_below HBw_r_12.out ct_26_0
            replace ct_26_1 := cell_below HBw_r_12.out ct_26_1
            replace ct_26_2 := cell_below HBw_r_12.out ct_26_2
            replace ct_26_3 := cell_below HBw_r_12.out ct_26_3
            replace ct_26_4 := cell_below HBw_r_12.out ct_26_4
            clear z_t_26
            have b0t_26 : (0 : Int) ≤ (nt_26 : Int) := by omega
            have b1t_26 : (nt_26 : Int) < ((list.length : Nat) : Int) := by omega
            have b2t_26 : ((nt_26 : Int)).toNat = nt_26 := by omega
            have Hct_26_0 := Lib.hid ct_26_0
            replace ct_26_0 := cell_regrown ct_26_0
            have Hct_26_1 := Lib.hid ct_26_1
            replace ct_26_1 := cell_regrown ct_26_1
            have Hct_26_2 := Lib.hid ct_26_2
            replace ct_26_2 := cell_regrown ct_26_2
            have Hct_26_3 := Lib.hid ct_26_3
            replace ct_26_3 := cell_regrown ct_26_3
            have Hct_26_4 := Lib.hid ct_26_4
            replace ct_26_4 := cell_regrown ct_26_4
            replace H := bind_hid H
            obtain ⟨t_28, qt_28, H⟩ := H
            have nt_28 : ∀ d os, Calls Try.prog 133 #[.agg #[.int .i64 t_10_zone, .int .i64 t_10_grams, .int .i64 t_10_from_, .int .i64 t_10_until_, .int .i64 t_10_cents], .agg #[.int .i64 t_26_zone, .int .i64 t_26_grams, .int .i64 t_26_from_, .int .i64 t_26_until_, .int .i64 t_26_cents]] (Go.Sort.grow (redrawn w_r_12 d) os) fun e w'' => e = .returned (.bool t_28) ∧ ∃ p : Regrown, w'' = Go.Sort.grow (redrawn w_r_12 p.d) p.os := fun d os => Calls.regrown_of (Go.Proofs.Ytlljmgphgmklcaa.GiCanFollow.C ((Go.Proofs.Ytlljmgphgmklcaa.PRate.Rate.mk t_10_zone t_10_grams t_10_from_ t_10_until_ t_10_cents)) ((Go.Proofs.Ytlljmgphgmklcaa.PRate.Rate.mk t_26_zone t_26_grams t_26_from_ t_26_until_ t_26_cents))  _    qt_28)
            cases t_28 with
            | false =>
              replace H := let_hid H
              obtain ⟨t_29, ht_29, H⟩ := H
              obtain rfl : t_29 = true := ht_29.symm
              replace H := app_hid H
              replace H := app_hid H
              refine wp_region_quiet_below (by kernel_rfl) (by kernel_rfl) ?_
              repeat (go_big_quiet_step (first | (go_at_call 132; exact nt_16 _ _) | (go_at_call 133; exact nt_28 _ _)))
              refine wpQuiet_nil ?_
              intro Y6 hY6
              replace hY6 := below_class hY6
              clear nt_16 nt_28
              replace ct_10_0__790 := Hct_10_0__790.out
              clear Hct_10_0__790
              replace ct_10_1__791 := Hct_10_1__791.out
              clear Hct_10_1__791
              replace ct_10_2__792 := Hct_10_2__792.out
              clear Hct_10_2__792
              replace ct_10_3__793 := Hct_10_3__793.out
              clear Hct_10_3__793
              replace ct_10_4__794 := Hct_10_4__794.out
              clear Hct_10_4__794
              replace kr_12_0 := Hkr_12_0.out
              clear Hkr_12_0
              replace kr_12_1 := Hkr_12_1.out
              clear Hkr_12_1
              replace kr_12_2 := Hkr_12_2.out
              clear Hkr_12_2
              replace kr_12_3 := Hkr_12_3.out
              clear Hkr_12_3
              replace kr_12_4 := Hkr_12_4.out
              clear Hkr_12_4
              replace ct_26_0 := Hct_26_0.out
              clear Hct_26_0
              replace ct_26_1 := Hct_26_1.out
              clear Hct_26_1
              replace ct_26_2 := Hct_26_2.out
              clear Hct_26_2
              replace ct_26_3 := Hct_26_3.out
              clear Hct_26_3
              replace ct_26_4 := Hct_26_4.out
              clear Hct_26_4
              have HBY6 := Lib.hid (Below.step HBw_r_12.out hY6)
              replace ct_10_0__790 := cell_below hY6 ct_10_0__790
              replace ct_10_1__791 := cell_below hY6 ct_10_1__791
              replace ct_10_2__792 := cell_below hY6 ct_10_2__792
              replace ct_10_3__793 := cell_below hY6 ct_10_3__793
              replace ct_10_4__794 := cell_below hY6 ct_10_4__794
              replace kr_12_0 := cell_below hY6 kr_12_0
              replace kr_12_1 := cell_below hY6 kr_12_1
              replace kr_12_2 := cell_below hY6 kr_12_2
              replace kr_12_3 := cell_below hY6 kr_12_3
              replace kr_12_4 := cell_below hY6 kr_12_4
              replace ct_26_0 := cell_below hY6 ct_26_0
              replace ct_26_1 := cell_below hY6 ct_26_1
              replace ct_26_2 := cell_below hY6 ct_26_2
              replace ct_26_3 := cell_below hY6 ct_26_3
              replace ct_26_4 := cell_below hY6 ct_26_4
              clear hY6
              replace H := ite_t H
              obtain rfl := ret_hid H
              go_wp2_with fail
              go_ret
              exact ⟨rfl, HBY6.out⟩
            | true =>
              replace H := let_hid H
              obtain ⟨t_29, ht_29, H⟩ := H
              obtain rfl : t_29 = false := ht_29.symm
              replace H := app_hid H
              replace H := app_hid H
              refine wp_region_quiet_below (by kernel_rfl) (by kernel_rfl) ?_
              repeat (go_big_quiet_step (first | (go_at_call 132; exact nt_16 _ _) | (go_at_call 133; exact nt_28 _ _)))
              refine wpQuiet_nil ?_
              intro Y6 hY6
              replace hY6 := below_class hY6
              clear nt_16 nt_28
              replace ct_10_0__790 := Hct_10_0__790.out
              clear Hct_10_0__790
              replace ct_10_1__791 := Hct_10_1__791.out
              clear Hct_10_1__791
              replace ct_10_2__792 := Hct_10_2__792.out
              clear Hct_10_2__792
              replace ct_10_3__793 := Hct_10_3__793.out
              clear Hct_10_3__793
              replace ct_10_4__794 := Hct_10_4__794.out
              clear Hct_10_4__794
              replace kr_12_0 := Hkr_12_0.out
              clear Hkr_12_0
              replace kr_12_1 := Hkr_12_1.out
              clear Hkr_12_1
              replace kr_12_2 := Hkr_12_2.out
              clear Hkr_12_2
              replace kr_12_3 := Hkr_12_3.out
              clear Hkr_12_3
              replace kr_12_4 := Hkr_12_4.out
              clear Hkr_12_4
              replace ct_26_0 := Hct_26_0.out
              clear Hct_26_0
              replace ct_26_1 := Hct_26_1.out
              clear Hct_26_1
              replace ct_26_2 := Hct_26_2.out
              clear Hct_26_2
              replace ct_26_3 := Hct_26_3.out
              clear Hct_26_3
              replace ct_26_4 := Hct_26_4.out
              clear Hct_26_4
              have HBY6 := Lib.hid (Below.step HBw_r_12.out hY6)
              replace ct_10_0__790 := cell_below hY6 ct_10_0__790
              replace ct_10_1__791 := cell_below hY6 ct_10_1__791
              replace ct_10_2__792 := cell_below hY6 ct_10_2__792
              replace ct_10_3__793 := cell_below hY6 ct_10_3__793
              replace ct_10_4__794 := cell_below hY6 ct_10_4__794
              replace kr_12_0 := cell_below hY6 kr_12_0
              replace kr_12_1 := cell_below hY6 kr_12_1
              replace kr_12_2 := cell_below hY6 kr_12_2
              replace kr_12_3 := cell_below hY6 kr_12_3
              replace kr_12_4 := cell_below hY6 kr_12_4
              replace ct_26_0 := cell_below hY6 ct_26_0
              replace ct_26_1 := cell_below hY6 ct_26_1
              replace ct_26_2 := cell_below hY6 ct_26_2
              replace ct_26_3 := cell_below hY6 ct_26_3
              replace ct_26_4 := cell_below hY6 ct_26_4
              clear hY6
              replace H := ite_f H
              replace H := app_hid H
              go_wp2_with fail
              go_roundg m0
              case measure => omega
              case rel => exact ⟨k0 + 1, by omega, by go_num, H, HBY6⟩
  | true =>
    have nht_3 : 16 < list.length := by have := of_decide_eq_true ht_3; omega
    replace H := ite_t H
    obtain rfl := ret_hid H
    go_wp2_with fail
    go_ret
    exact ⟨rfl, HB.out⟩
end Go.Proofs.Ytlljmgphgmklcaa.GiAreRates

/- loop.example/g01062/impl.IsTimetable as a plain function, and the contract of the program's: where the plain one has an answer, the program has it. Conditions: slices read as lists. -/
namespace Go.Proofs.Ytlljmgphgmklcaa.GiIsTimetable
set_option linter.unusedVariables false
set_option linter.unusedSimpArgs false
open Go.RowKit
open Go.Proofs.Ytlljmgphgmklcaa.Rowed Go.Proofs.Ytlljmgphgmklcaa.Turn Go.Proofs.Ytlljmgphgmklcaa.Aid Go.Proofs.Ytlljmgphgmklcaa.GoP Go.Proofs.Ytlljmgphgmklcaa.GoM

def l0 (list : (List Go.Proofs.Ytlljmgphgmklcaa.PMail.Mail)) (k0 : Nat) (s : Unit) (nx0 bk0 : Unit → Option (Bool)) : Option (Bool) :=
  
  Option.bind (idx list (k0 : Int)) fun (yt_10 : Go.Proofs.Ytlljmgphgmklcaa.PMail.Mail) =>
  unMail yt_10 fun (t_10_leave : Int) (t_10_from_ : Int) (t_10_to_ : Int) (t_10_arrive : Int) =>
  Option.bind (Go.Proofs.Ytlljmgphgmklcaa.GiIsMail.P (Go.Proofs.Ytlljmgphgmklcaa.PMail.Mail.mk t_10_leave t_10_from_ t_10_to_ t_10_arrive)) fun (t_16 : Bool) =>
  letK (!t_16) fun (t_17 : Bool) =>
  joinK (fun (t_31 : Bool) =>
  iteK t_31
  (some false)
  (appK nx0 ())) fun jt_31 => iteK t_17 (appK jt_31 true) (letK (decide (0 < (k0 : Int))) fun (t_20 : Bool) =>
  joinK (fun (t_30 : Bool) =>
  appK jt_31 t_30) fun jt_30 => iteK t_20 (letK (IntKind.i64.wrap ((k0 : Int) - 1)) fun (t_24 : Int) =>
  Option.bind (idx list t_24) fun (yt_25 : Go.Proofs.Ytlljmgphgmklcaa.PMail.Mail) =>
  unMail yt_25 fun (t_25_leave : Int) (t_25_from_ : Int) (t_25_to_ : Int) (t_25_arrive : Int) =>
  Option.bind (Go.Proofs.Ytlljmgphgmklcaa.GiCompareMails.P (Go.Proofs.Ytlljmgphgmklcaa.PMail.Mail.mk t_25_leave t_25_from_ t_25_to_ t_25_arrive) (Go.Proofs.Ytlljmgphgmklcaa.PMail.Mail.mk t_10_leave t_10_from_ t_10_to_ t_10_arrive)) fun (t_28 : Int) =>
  letK (decide (0 ≤ t_28)) fun (t_29 : Bool) =>
  appK jt_30 t_29) (appK jt_30 false))

def e0  (s : Unit) : Option (Bool) :=
  
  some true

def P (list : (List Go.Proofs.Ytlljmgphgmklcaa.PMail.Mail)) : Option (Bool) :=
  letK (decide (20 < (list.length : Int))) fun (t_3 : Bool) =>
  iteK t_3
  (some false)
  (cntK (l0 list) (list.length) 0 () (e0 ))

set_option maxRecDepth 100000 in
set_option maxHeartbeats 2000000 in
theorem C (list : (List Go.Proofs.Ytlljmgphgmklcaa.PMail.Mail)) (A0 : Option Addr) (c0 : Nat)  (w : World) (M0 : Hid (Cells w 4 A0 list.length (Go.Proofs.Ytlljmgphgmklcaa.PMail.flat list))) (N0 : Hid (list.length ≤ 9223372036854775807))  {r : Bool} (H : Hid (P list = some r)) :
    Calls Try.prog 104 #[.slice A0 list.length c0] w (Gives (.bool r) w) := by
  have HB := Lib.hid (Below.refl w.heap.size w)
  unfold P at H
  have N0o := N0.out
  go_enter Try.func104, Try.ntmps104
  replace H := let_hid H
  obtain ⟨t_3, ht_3, H⟩ := H
  cases t_3 with
  | false =>
    have nht_3 : ¬ (20 < list.length) := by have := of_decide_eq_false ht_3; omega
    replace H := ite_f H
    go_wp2_with fail
    go_loopg [10] (list.length) (fun m_ v10_ wr => ∃ (k0 : Nat) , k0 + m_ = list.length ∧ v10_ = .int .i64 (k0 : Int) ∧ Hid (cntK (l0 list) m_ k0 () (e0 ) = some r) ∧ Hid (Below w.heap.size w wr))
    case atStart => exact ⟨0, by omega, rfl, H, HB⟩
    case round =>
      obtain ⟨k0, hkm0, rfl, H, HBwr0⟩ := hrel
      rename World => wr0
      cases gk with
      | zero =>
        obtain rfl : k0 = list.length := by omega
        have hc0 : decide (((list.length : Nat) : Int) < ((list.length : Nat) : Int)) = false := by simp
        replace H := cnt_zero H
        unfold e0 at H
        obtain rfl := ret_hid H
        go_wp2_with fail
        go_ret
        exact ⟨rfl, HBwr0.out⟩
      | succ m0 =>
        have hlt0 : k0 < list.length := by omega
        have hc0 : decide ((k0 : Int) < ((list.length : Nat) : Int)) = true := by simp; omega
        replace H := cnt_succ H
        unfold l0 at H
        replace H := idx_hid H
        obtain ⟨nt_10, yt_10, et_10, lt_10, gt_10, H⟩ := H
        obtain rfl : k0 = nt_10 := by omega
        clear et_10
        obtain ⟨t_10_leave, t_10_from_, t_10_to_, t_10_arrive⟩ := yt_10
        replace H := unMail_hid H
        obtain ⟨ab_t_10, ao_t_10, zt_10, At_10, z_t_10, ct_10_0, ct_10_1, ct_10_2, ct_10_3⟩ := Go.Proofs.Ytlljmgphgmklcaa.OMail.at_ M0.out lt_10
        obtain rfl := Option.some.inj (gt_10.out.symm.trans z_t_10)
        subst At_10
        have ltt_10 := cell_lt ct_10_0
        replace ct_10_0 := cell_below HBwr0.out ct_10_0
        replace ct_10_1 := cell_below HBwr0.out ct_10_1
        replace ct_10_2 := cell_below HBwr0.out ct_10_2
        replace ct_10_3 := cell_below HBwr0.out ct_10_3
        clear z_t_10
        have b0t_10 : (0 : Int) ≤ (k0 : Int) := by omega
        have b1t_10 : (k0 : Int) < ((list.length : Nat) : Int) := by omega
        have b2t_10 : ((k0 : Int)).toNat = k0 := by omega
        obtain ⟨w_x_12, hw_x_12⟩ : ∃ x, wr0.alloc (.cells #[.int .i64 t_10_leave, .int .i64 t_10_from_, .int .i64 t_10_to_, .int .i64 t_10_arrive] 108) = x := ⟨_, rfl⟩
        have bw_x_12 : Below wr0.heap.size wr0 w_x_12 := by rw [← hw_x_12]; exact (Below.refl _ _).alloc (Nat.le_refl _) _
        have HBw_x_12 := Lib.hid (Below.step HBwr0.out bw_x_12)
        have ct_10_0__13 := cell_below bw_x_12 ct_10_0
        have ct_10_1__14 := cell_below bw_x_12 ct_10_1
        have ct_10_2__15 := cell_below bw_x_12 ct_10_2
        have ct_10_3__16 := cell_below bw_x_12 ct_10_3
        clear bw_x_12
        have kx_12_0 : w_x_12.cell? ⟨wr0.heap.size, 0, none⟩ = some (.int .i64 t_10_leave) := by rw [← hw_x_12]; exact box_new _ _ _ 0 _ rfl
        have kx_12_1 : w_x_12.cell? ⟨wr0.heap.size, 1, none⟩ = some (.int .i64 t_10_from_) := by rw [← hw_x_12]; exact box_new _ _ _ 1 _ rfl
        have kx_12_2 : w_x_12.cell? ⟨wr0.heap.size, 2, none⟩ = some (.int .i64 t_10_to_) := by rw [← hw_x_12]; exact box_new _ _ _ 2 _ rfl
        have kx_12_3 : w_x_12.cell? ⟨wr0.heap.size, 3, none⟩ = some (.int .i64 t_10_arrive) := by rw [← hw_x_12]; exact box_new _ _ _ 3 _ rfl
        go_wp2_with fail
        clear ct_10_0 ct_10_1 ct_10_2 ct_10_3
        have Hct_10_0__13 := Lib.hid ct_10_0__13
        replace ct_10_0__13 := cell_regrown ct_10_0__13
        have Hct_10_1__14 := Lib.hid ct_10_1__14
        replace ct_10_1__14 := cell_regrown ct_10_1__14
        have Hct_10_2__15 := Lib.hid ct_10_2__15
        replace ct_10_2__15 := cell_regrown ct_10_2__15
        have Hct_10_3__16 := Lib.hid ct_10_3__16
        replace ct_10_3__16 := cell_regrown ct_10_3__16
        have Hkx_12_0 := Lib.hid kx_12_0
        replace kx_12_0 := cell_regrown kx_12_0
        have Hkx_12_1 := Lib.hid kx_12_1
        replace kx_12_1 := cell_regrown kx_12_1
        have Hkx_12_2 := Lib.hid kx_12_2
        replace kx_12_2 := cell_regrown kx_12_2
        have Hkx_12_3 := Lib.hid kx_12_3
        replace kx_12_3 := cell_regrown kx_12_3
        replace H := bind_hid H
        obtain ⟨t_16, qt_16, H⟩ := H
        have nt_16 : ∀ d os, Calls Try.prog 148 #[.agg #[.int .i64 t_10_leave, .int .i64 t_10_from_, .int .i64 t_10_to_, .int .i64 t_10_arrive]] (Go.Sort.grow (redrawn w_x_12 d) os) fun e w'' => e = .returned (.bool t_16) ∧ ∃ p : Regrown, w'' = Go.Sort.grow (redrawn w_x_12 p.d) p.os := fun d os => Calls.regrown_of (Go.Proofs.Ytlljmgphgmklcaa.GiIsMail.C ((Go.Proofs.Ytlljmgphgmklcaa.PMail.Mail.mk t_10_leave t_10_from_ t_10_to_ t_10_arrive))  _    qt_16)
        cases t_16 with
        | false =>
          replace H := let_hid H
          obtain ⟨t_17, ht_17, H⟩ := H
          obtain rfl : t_17 = true := ht_17.symm
          replace H := join_hid H
          replace H := ite_t H
          replace H := app_hid H
          refine wp_region_quiet_below (by kernel_rfl) (by kernel_rfl) ?_
          repeat (go_big_quiet_step (first | (go_at_call 148; exact nt_16 _ _)))
          refine wpQuiet_nil ?_
          intro Y6 hY6
          replace hY6 := below_class hY6
          clear nt_16
          replace ct_10_0__13 := Hct_10_0__13.out
          clear Hct_10_0__13
          replace ct_10_1__14 := Hct_10_1__14.out
          clear Hct_10_1__14
          replace ct_10_2__15 := Hct_10_2__15.out
          clear Hct_10_2__15
          replace ct_10_3__16 := Hct_10_3__16.out
          clear Hct_10_3__16
          replace kx_12_0 := Hkx_12_0.out
          clear Hkx_12_0
          replace kx_12_1 := Hkx_12_1.out
          clear Hkx_12_1
          replace kx_12_2 := Hkx_12_2.out
          clear Hkx_12_2
          replace kx_12_3 := Hkx_12_3.out
          clear Hkx_12_3
          have HBY6 := Lib.hid (Below.step HBw_x_12.out hY6)
          replace ct_10_0__13 := cell_below hY6 ct_10_0__13
          replace ct_10_1__14 := cell_below hY6 ct_10_1__14
          replace ct_10_2__15 := cell_below hY6 ct_10_2__15
          replace ct_10_3__16 := cell_below hY6 ct_10_3__16
          replace kx_12_0 := cell_below hY6 kx_12_0
          replace kx_12_1 := cell_below hY6 kx_12_1
          replace kx_12_2 := cell_below hY6 kx_12_2
          replace kx_12_3 := cell_below hY6 kx_12_3
          clear hY6
          replace H := ite_t H
          obtain rfl := ret_hid H
          go_wp2_with fail
          go_ret
          exact ⟨rfl, HBY6.out⟩
        | true =>
          replace H := let_hid H
          obtain ⟨t_17, ht_17, H⟩ := H
          obtain rfl : t_17 = false := ht_17.symm
          replace H := join_hid H
          replace H := ite_f H
          replace H := let_hid H
          obtain ⟨t_20, ht_20, H⟩ := H
          replace H := join_hid H
          cases t_20 with
          | false =>
            have nht_20 : ¬ (0 < k0) := by have := of_decide_eq_false ht_20; omega
            replace H := ite_f H
            replace H := app_hid H
            replace H := app_hid H
            refine wp_region_quiet_below (by kernel_rfl) (by kernel_rfl) ?_
            repeat (go_big_quiet_step (first | (go_at_call 148; exact nt_16 _ _)))
            refine wpQuiet_nil ?_
            intro Y6 hY6
            replace hY6 := below_class hY6
            clear nt_16
            replace ct_10_0__13 := Hct_10_0__13.out
            clear Hct_10_0__13
            replace ct_10_1__14 := Hct_10_1__14.out
            clear Hct_10_1__14
            replace ct_10_2__15 := Hct_10_2__15.out
            clear Hct_10_2__15
            replace ct_10_3__16 := Hct_10_3__16.out
            clear Hct_10_3__16
            replace kx_12_0 := Hkx_12_0.out
            clear Hkx_12_0
            replace kx_12_1 := Hkx_12_1.out
            clear Hkx_12_1
            replace kx_12_2 := Hkx_12_2.out
            clear Hkx_12_2
            replace kx_12_3 := Hkx_12_3.out
            clear Hkx_12_3
            have HBY6 := Lib.hid (Below.step HBw_x_12.out hY6)
            replace ct_10_0__13 := cell_below hY6 ct_10_0__13
            replace ct_10_1__14 := cell_below hY6 ct_10_1__14
            replace ct_10_2__15 := cell_below hY6 ct_10_2__15
            replace ct_10_3__16 := cell_below hY6 ct_10_3__16
            replace kx_12_0 := cell_below hY6 kx_12_0
            replace kx_12_1 := cell_below hY6 kx_12_1
            replace kx_12_2 := cell_below hY6 kx_12_2
            replace kx_12_3 := cell_below hY6 kx_12_3
            clear hY6
            replace H := ite_f H
            replace H := app_hid H
            go_wp2_with fail
            go_roundg m0
            case measure => omega
            case rel => exact ⟨k0 + 1, by omega, by go_num, H, HBY6⟩
          | true =>
            have nht_20 : 0 < k0 := by have := of_decide_eq_true ht_20; omega
            replace H := ite_t H
            replace H := let_hid H
            obtain ⟨t_24, ht_24, H⟩ := H
            replace H := idx_hid H
            obtain ⟨nt_25, yt_25, et_25, lt_25, gt_25, H⟩ := H
            subst et_25
            obtain ⟨t_25_leave, t_25_from_, t_25_to_, t_25_arrive⟩ := yt_25
            replace H := unMail_hid H
            obtain ⟨ab_t_25, ao_t_25, zt_25, At_25, z_t_25, ct_25_0, ct_25_1, ct_25_2, ct_25_3⟩ := Go.Proofs.Ytlljmgphgmklcaa.OMail.at_ M0.out lt_25
            obtain rfl := Option.some.inj (gt_25.out.symm.trans z_t_25)
            simp only [Option.some.injEq, Addr.mk.injEq] at At_25
            obtain ⟨rfl, rfl, _⟩ := At_25
            have ltt_25 := cell_lt ct_25_0
            replace ct_25_0 := cell_below HBw_x_12.out ct_25_0
            replace ct_25_1 := cell_below HBw_x_12.out ct_25_1
            replace ct_25_2 := cell_below HBw_x_12.out ct_25_2
            replace ct_25_3 := cell_below HBw_x_12.out ct_25_3
            clear z_t_25
            have b0t_25 : (0 : Int) ≤ (nt_25 : Int) := by omega
            have b1t_25 : (nt_25 : Int) < ((list.length : Nat) : Int) := by omega
            have b2t_25 : ((nt_25 : Int)).toNat = nt_25 := by omega
            have Hct_25_0 := Lib.hid ct_25_0
            replace ct_25_0 := cell_regrown ct_25_0
            have Hct_25_1 := Lib.hid ct_25_1
            replace ct_25_1 := cell_regrown ct_25_1
            have Hct_25_2 := Lib.hid ct_25_2
            replace ct_25_2 := cell_regrown ct_25_2
            have Hct_25_3 := Lib.hid ct_25_3
            replace ct_25_3 := cell_regrown ct_25_3
            replace H := bind_hid H
            obtain ⟨t_28, qt_28, H⟩ := H
            have nt_28 : ∀ d os, Calls Try.prog 149 #[.agg #[.int .i64 t_25_leave, .int .i64 t_25_from_, .int .i64 t_25_to_, .int .i64 t_25_arrive], .agg #[.int .i64 t_10_leave, .int .i64 t_10_from_, .int .i64 t_10_to_, .int .i64 t_10_arrive]] (Go.Sort.grow (redrawn w_x_12 d) os) fun e w'' => e = .returned (.int .i64 t_28) ∧ ∃ p : Regrown, w'' = Go.Sort.grow (redrawn w_x_12 p.d) p.os := fun d os => Calls.regrown_of (Go.Proofs.Ytlljmgphgmklcaa.GiCompareMails.C ((Go.Proofs.Ytlljmgphgmklcaa.PMail.Mail.mk t_25_leave t_25_from_ t_25_to_ t_25_arrive)) ((Go.Proofs.Ytlljmgphgmklcaa.PMail.Mail.mk t_10_leave t_10_from_ t_10_to_ t_10_arrive))  _    qt_28)
            replace H := let_hid H
            obtain ⟨t_29, ht_29, H⟩ := H
            replace H := app_hid H
            replace H := app_hid H
            refine wp_region_quiet_below (by kernel_rfl) (by kernel_rfl) ?_
            repeat (go_big_quiet_step (first | (go_at_call 148; exact nt_16 _ _) | (go_at_call 149; exact nt_28 _ _)))
            refine wpQuiet_nil ?_
            intro Y6 hY6
            replace hY6 := below_class hY6
            clear nt_16 nt_28
            replace ct_10_0__13 := Hct_10_0__13.out
            clear Hct_10_0__13
            replace ct_10_1__14 := Hct_10_1__14.out
            clear Hct_10_1__14
            replace ct_10_2__15 := Hct_10_2__15.out
            clear Hct_10_2__15
            replace ct_10_3__16 := Hct_10_3__16.out
            clear Hct_10_3__16
            replace kx_12_0 := Hkx_12_0.out
            clear Hkx_12_0
            replace kx_12_1 := Hkx_12_1.out
            clear Hkx_12_1
            replace kx_12_2 := Hkx_12_2.out
            clear Hkx_12_2
            replace kx_12_3 := Hkx_12_3.out
            clear Hkx_12_3
            replace ct_25_0 := Hct_25_0.out
            clear Hct_25_0
            replace ct_25_1 := Hct_25_1.out
            clear Hct_25_1
            replace ct_25_2 := Hct_25_2.out
            clear Hct_25_2
            replace ct_25_3 := Hct_25_3.out
            clear Hct_25_3
            have HBY6 := Lib.hid (Below.step HBw_x_12.out hY6)
            replace ct_10_0__13 := cell_below hY6 ct_10_0__13
            replace ct_10_1__14 := cell_below hY6 ct_10_1__14
            replace ct_10_2__15 := cell_below hY6 ct_10_2__15
            replace ct_10_3__16 := cell_below hY6 ct_10_3__16
            replace kx_12_0 := cell_below hY6 kx_12_0
            replace kx_12_1 := cell_below hY6 kx_12_1
            replace kx_12_2 := cell_below hY6 kx_12_2
            replace kx_12_3 := cell_below hY6 kx_12_3
            replace ct_25_0 := cell_below hY6 ct_25_0
            replace ct_25_1 := cell_below hY6 ct_25_1
            replace ct_25_2 := cell_below hY6 ct_25_2
            replace ct_25_3 := cell_below hY6 ct_25_3
            clear hY6
            cases t_29 with
            | false =>
              replace H := ite_f H
              replace H := app_hid H
              go_wp2_with fail
              go_roundg m0
              case measure => omega
              case rel => exact ⟨k0 + 1, by omega, by go_num, H, HBY6⟩
            | true =>
              replace H := ite_t H
              obtain rfl := ret_hid H
              go_wp2_with fail
              go_ret
              exact ⟨rfl, HBY6.out⟩
  | true =>
    have nht_3 : 20 < list.length := by have := of_decide_eq_true ht_3; omega
    replace H := ite_t H
    obtain rfl := ret_hid H
    go_wp2_with fail
    go_ret
    exact ⟨rfl, HB.out⟩
end Go.Proofs.Ytlljmgphgmklcaa.GiIsTimetable

/- loop.example/g01062/impl.canCheckCovers as a plain function, and the contract of the program's: where the plain one has an answer, the program has it. Conditions: slices read as lists. -/
namespace Go.Proofs.Ytlljmgphgmklcaa.GiCanCheckCovers
set_option linter.unusedVariables false
set_option linter.unusedSimpArgs false
open Go.RowKit
open Go.Proofs.Ytlljmgphgmklcaa.Rowed Go.Proofs.Ytlljmgphgmklcaa.Turn Go.Proofs.Ytlljmgphgmklcaa.Aid Go.Proofs.Ytlljmgphgmklcaa.GoP Go.Proofs.Ytlljmgphgmklcaa.GoM

def P (rates : (List Go.Proofs.Ytlljmgphgmklcaa.PRate.Rate)) (mails : (List Go.Proofs.Ytlljmgphgmklcaa.PMail.Mail)) : Option (Bool) :=
  Option.bind (Go.Proofs.Ytlljmgphgmklcaa.GiAreRates.P rates) fun (t_2 : Bool) =>
  joinK (fun (t_6 : Bool) =>
  some t_6) fun jt_6 => iteK t_2 (Option.bind (Go.Proofs.Ytlljmgphgmklcaa.GiIsTimetable.P mails) fun (t_5 : Bool) =>
  appK jt_6 t_5) (appK jt_6 false)

set_option maxRecDepth 100000 in
set_option maxHeartbeats 2000000 in
theorem C (rates : (List Go.Proofs.Ytlljmgphgmklcaa.PRate.Rate)) (mails : (List Go.Proofs.Ytlljmgphgmklcaa.PMail.Mail)) (A0 : Option Addr) (c0 : Nat) (A1 : Option Addr) (c1 : Nat)  (w : World) (M0 : Hid (Cells w 5 A0 rates.length (Go.Proofs.Ytlljmgphgmklcaa.PRate.flat rates))) (N0 : Hid (rates.length ≤ 9223372036854775807)) (M1 : Hid (Cells w 4 A1 mails.length (Go.Proofs.Ytlljmgphgmklcaa.PMail.flat mails))) (N1 : Hid (mails.length ≤ 9223372036854775807))  {r : Bool} (H : Hid (P rates mails = some r)) :
    Calls Try.prog 94 #[.slice A0 rates.length c0, .slice A1 mails.length c1] w (Gives (.bool r) w) := by
  have HB := Lib.hid (Below.refl w.heap.size w)
  unfold P at H
  have N0o := N0.out
  have N1o := N1.out
  go_enter Try.func94, Try.ntmps94
  replace H := bind_hid H
  obtain ⟨t_2, qt_2, H⟩ := H
  go_wp2_with fail
  go_at_call 67
  refine (Go.Proofs.Ytlljmgphgmklcaa.GiAreRates.C (rates) A0 c0 _   (Lib.hid (Cells.below M0.out HB.out)) N0 qt_2).mono ?_
  rintro e_t_2 wt_2 ⟨rfl, bt_2⟩
  have HBwt_2 := Lib.hid (Below.step HB.out bt_2)
  clear bt_2
  replace H := join_hid H
  cases t_2 with
  | false =>
    replace H := ite_f H
    replace H := app_hid H
    obtain rfl := ret_hid H
    go_wp2_with fail
    go_ret
    exact ⟨rfl, HBwt_2.out⟩
  | true =>
    replace H := ite_t H
    replace H := bind_hid H
    obtain ⟨t_5, qt_5, H⟩ := H
    go_wp2_with fail
    go_at_call 104
    refine (Go.Proofs.Ytlljmgphgmklcaa.GiIsTimetable.C (mails) A1 c1 _   (Lib.hid (Cells.below M1.out HBwt_2.out)) N1 qt_5).mono ?_
    rintro e_t_5 wt_5 ⟨rfl, bt_5⟩
    have HBwt_5 := Lib.hid (Below.step HBwt_2.out bt_5)
    clear bt_5
    replace H := app_hid H
    obtain rfl := ret_hid H
    go_wp2_with fail
    go_ret
    exact ⟨rfl, HBwt_5.out⟩
end Go.Proofs.Ytlljmgphgmklcaa.GiCanCheckCovers

/- loop.example/g01062/impl.rateOn as a plain function, and the contract of the program's: where the plain one has an answer, the program has it. Conditions: slices read as lists. -/
namespace Go.Proofs.Ytlljmgphgmklcaa.GiRateOn
set_option linter.unusedVariables false
set_option linter.unusedSimpArgs false
open Go.RowKit
open Go.Proofs.Ytlljmgphgmklcaa.Rowed Go.Proofs.Ytlljmgphgmklcaa.Turn Go.Proofs.Ytlljmgphgmklcaa.Aid Go.Proofs.Ytlljmgphgmklcaa.GoP Go.Proofs.Ytlljmgphgmklcaa.GoM

def l0 (list : (List Go.Proofs.Ytlljmgphgmklcaa.PRate.Rate)) (day : Int) (zone : Int) (grams : Int) (k0 : Nat) (s : Unit) (nx0 bk0 : Unit → Option (Int)) : Option (Int) :=
  
  Option.bind (idx list (k0 : Int)) fun (yt_5 : Go.Proofs.Ytlljmgphgmklcaa.PRate.Rate) =>
  unRate yt_5 fun (t_5_zone : Int) (t_5_grams : Int) (t_5_from_ : Int) (t_5_until_ : Int) (t_5_cents : Int) =>
  letK (t_5_zone == zone) fun (t_12 : Bool) =>
  joinK (fun (t_18 : Bool) =>
  joinK (fun (t_26 : Bool) =>
  iteK t_26
  (some t_5_cents)
  (appK nx0 ())) fun jt_26 => iteK t_18 (Option.bind (Go.Proofs.Ytlljmgphgmklcaa.GiWithin.P day t_5_from_ t_5_until_) fun (t_25 : Bool) =>
  appK jt_26 t_25) (appK jt_26 false)) fun jt_18 => iteK t_12 (letK (decide (grams ≤ t_5_grams)) fun (t_17 : Bool) =>
  appK jt_18 t_17) (appK jt_18 false)

def e0  (s : Unit) : Option (Int) :=
  
  some 0

def P (list : (List Go.Proofs.Ytlljmgphgmklcaa.PRate.Rate)) (day : Int) (zone : Int) (grams : Int) : Option (Int) :=
  cntK (l0 list day zone grams) (list.length) 0 () (e0 )

set_option maxRecDepth 100000 in
set_option maxHeartbeats 2000000 in
theorem C (list : (List Go.Proofs.Ytlljmgphgmklcaa.PRate.Rate)) (day : Int) (zone : Int) (grams : Int) (A0 : Option Addr) (c0 : Nat)  (w : World) (M0 : Hid (Cells w 5 A0 list.length (Go.Proofs.Ytlljmgphgmklcaa.PRate.flat list))) (N0 : Hid (list.length ≤ 9223372036854775807))  {r : Int} (H : Hid (P list day zone grams = some r)) :
    Calls Try.prog 131 #[.slice A0 list.length c0, .int .i64 day, .int .i64 zone, .int .i64 grams] w (Gives (.int .i64 r) w) := by
  have HB := Lib.hid (Below.refl w.heap.size w)
  unfold P at H
  have N0o := N0.out
  go_enter Try.func131, Try.ntmps131
  go_wp2_with fail
  go_loopg [13] (list.length) (fun m_ v13_ wr => ∃ (k0 : Nat) , k0 + m_ = list.length ∧ v13_ = .int .i64 (k0 : Int) ∧ Hid (cntK (l0 list day zone grams) m_ k0 () (e0 ) = some r) ∧ Hid (Below w.heap.size w wr))
  case atStart => exact ⟨0, by omega, rfl, H, HB⟩
  case round =>
    obtain ⟨k0, hkm0, rfl, H, HBwr0⟩ := hrel
    rename World => wr0
    cases gk with
    | zero =>
      obtain rfl : k0 = list.length := by omega
      have hc0 : decide (((list.length : Nat) : Int) < ((list.length : Nat) : Int)) = false := by simp
      replace H := cnt_zero H
      unfold e0 at H
      obtain rfl := ret_hid H
      go_wp2_with fail
      go_ret
      exact ⟨rfl, HBwr0.out⟩
    | succ m0 =>
      have hlt0 : k0 < list.length := by omega
      have hc0 : decide ((k0 : Int) < ((list.length : Nat) : Int)) = true := by simp; omega
      replace H := cnt_succ H
      unfold l0 at H
      replace H := idx_hid H
      obtain ⟨nt_5, yt_5, et_5, lt_5, gt_5, H⟩ := H
      obtain rfl : k0 = nt_5 := by omega
      clear et_5
      obtain ⟨t_5_zone, t_5_grams, t_5_from_, t_5_until_, t_5_cents⟩ := yt_5
      replace H := unRate_hid H
      obtain ⟨ab_t_5, ao_t_5, zt_5, At_5, z_t_5, ct_5_0, ct_5_1, ct_5_2, ct_5_3, ct_5_4⟩ := Go.Proofs.Ytlljmgphgmklcaa.ORate.at_ M0.out lt_5
      obtain rfl := Option.some.inj (gt_5.out.symm.trans z_t_5)
      subst At_5
      have ltt_5 := cell_lt ct_5_0
      replace ct_5_0 := cell_below HBwr0.out ct_5_0
      replace ct_5_1 := cell_below HBwr0.out ct_5_1
      replace ct_5_2 := cell_below HBwr0.out ct_5_2
      replace ct_5_3 := cell_below HBwr0.out ct_5_3
      replace ct_5_4 := cell_below HBwr0.out ct_5_4
      clear z_t_5
      have b0t_5 : (0 : Int) ≤ (k0 : Int) := by omega
      have b1t_5 : (k0 : Int) < ((list.length : Nat) : Int) := by omega
      have b2t_5 : ((k0 : Int)).toNat = k0 := by omega
      obtain ⟨w_r_7, hw_r_7⟩ : ∃ x, wr0.alloc (.cells #[.int .i64 t_5_zone, .int .i64 t_5_grams, .int .i64 t_5_from_, .int .i64 t_5_until_, .int .i64 t_5_cents] 104) = x := ⟨_, rfl⟩
      have bw_r_7 : Below wr0.heap.size wr0 w_r_7 := by rw [← hw_r_7]; exact (Below.refl _ _).alloc (Nat.le_refl _) _
      have HBw_r_7 := Lib.hid (Below.step HBwr0.out bw_r_7)
      have ct_5_0__638 := cell_below bw_r_7 ct_5_0
      have ct_5_1__639 := cell_below bw_r_7 ct_5_1
      have ct_5_2__640 := cell_below bw_r_7 ct_5_2
      have ct_5_3__641 := cell_below bw_r_7 ct_5_3
      have ct_5_4__642 := cell_below bw_r_7 ct_5_4
      clear bw_r_7
      have kr_7_0 : w_r_7.cell? ⟨wr0.heap.size, 0, none⟩ = some (.int .i64 t_5_zone) := by rw [← hw_r_7]; exact box_new _ _ _ 0 _ rfl
      have kr_7_1 : w_r_7.cell? ⟨wr0.heap.size, 1, none⟩ = some (.int .i64 t_5_grams) := by rw [← hw_r_7]; exact box_new _ _ _ 1 _ rfl
      have kr_7_2 : w_r_7.cell? ⟨wr0.heap.size, 2, none⟩ = some (.int .i64 t_5_from_) := by rw [← hw_r_7]; exact box_new _ _ _ 2 _ rfl
      have kr_7_3 : w_r_7.cell? ⟨wr0.heap.size, 3, none⟩ = some (.int .i64 t_5_until_) := by rw [← hw_r_7]; exact box_new _ _ _ 3 _ rfl
      have kr_7_4 : w_r_7.cell? ⟨wr0.heap.size, 4, none⟩ = some (.int .i64 t_5_cents) := by rw [← hw_r_7]; exact box_new _ _ _ 4 _ rfl
      replace H := let_hid H
      obtain ⟨t_12, ht_12, H⟩ := H
      replace H := join_hid H
      cases t_12 with
      | false =>
        replace H := ite_f H
        replace H := app_hid H
        replace H := join_hid H
        replace H := ite_f H
        replace H := app_hid H
        replace H := ite_f H
        replace H := app_hid H
        go_wp2_with fail
        clear ct_5_0 ct_5_1 ct_5_2 ct_5_3 ct_5_4
        go_roundg m0
        case measure => omega
        case rel => exact ⟨k0 + 1, by omega, by go_num, H, HBw_r_7⟩
      | true =>
        replace H := ite_t H
        replace H := let_hid H
        obtain ⟨t_17, ht_17, H⟩ := H
        replace H := app_hid H
        replace H := join_hid H
        cases t_17 with
        | false =>
          replace H := ite_f H
          replace H := app_hid H
          replace H := ite_f H
          replace H := app_hid H
          go_wp2_with fail
          clear ct_5_0 ct_5_1 ct_5_2 ct_5_3 ct_5_4
          go_roundg m0
          case measure => omega
          case rel => exact ⟨k0 + 1, by omega, by go_num, H, HBw_r_7⟩
        | true =>
          replace H := ite_t H
          replace H := bind_hid H
          obtain ⟨t_25, qt_25, H⟩ := H
          go_wp2_with fail
          clear ct_5_0 ct_5_1 ct_5_2 ct_5_3 ct_5_4
          go_at_call 78
          refine (Go.Proofs.Ytlljmgphgmklcaa.GiWithin.C (day) (t_5_from_) (t_5_until_)  _    qt_25).mono ?_
          rintro e_t_25 wt_25 ⟨rfl, bt_25⟩
          have HBwt_25 := Lib.hid (Below.step HBw_r_7.out bt_25)
          replace ct_5_0__638 := cell_below bt_25 ct_5_0__638
          replace ct_5_1__639 := cell_below bt_25 ct_5_1__639
          replace ct_5_2__640 := cell_below bt_25 ct_5_2__640
          replace ct_5_3__641 := cell_below bt_25 ct_5_3__641
          replace ct_5_4__642 := cell_below bt_25 ct_5_4__642
          replace kr_7_0 := cell_below bt_25 kr_7_0
          replace kr_7_1 := cell_below bt_25 kr_7_1
          replace kr_7_2 := cell_below bt_25 kr_7_2
          replace kr_7_3 := cell_below bt_25 kr_7_3
          replace kr_7_4 := cell_below bt_25 kr_7_4
          clear bt_25
          replace H := app_hid H
          cases t_25 with
          | false =>
            replace H := ite_f H
            replace H := app_hid H
            go_wp2_with fail
            go_roundg m0
            case measure => omega
            case rel => exact ⟨k0 + 1, by omega, by go_num, H, HBwt_25⟩
          | true =>
            replace H := ite_t H
            obtain rfl := ret_hid H
            go_wp2_with fail
            go_ret
            exact ⟨rfl, HBwt_25.out⟩
end Go.Proofs.Ytlljmgphgmklcaa.GiRateOn

/- loop.example/g01062/impl.rateOfCover as a plain function, and the contract of the program's: where the plain one has an answer, the program has it. Conditions: slices read as lists. -/
namespace Go.Proofs.Ytlljmgphgmklcaa.GiRateOfCover
set_option linter.unusedVariables false
set_option linter.unusedSimpArgs false
open Go.RowKit
open Go.Proofs.Ytlljmgphgmklcaa.Rowed Go.Proofs.Ytlljmgphgmklcaa.Turn Go.Proofs.Ytlljmgphgmklcaa.Aid Go.Proofs.Ytlljmgphgmklcaa.GoP Go.Proofs.Ytlljmgphgmklcaa.GoM

def P (rates : (List Go.Proofs.Ytlljmgphgmklcaa.PRate.Rate)) (x : Go.Proofs.Ytlljmgphgmklcaa.PCover.Cover) : Option (Int) :=
  unCover x fun (x_id : Int) (x_day : Int) (x_zone : Int) (x_grams : Int) (x_paid : Int) (x_from_ : Int) (x_to_ : Int) (x_leave : Int) (x_arrive : Int) =>
  Option.bind (Go.Proofs.Ytlljmgphgmklcaa.GiRateOn.P rates x_day x_zone x_grams) fun (t_9 : Int) =>
  some t_9

set_option maxRecDepth 100000 in
set_option maxHeartbeats 2000000 in
theorem C (rates : (List Go.Proofs.Ytlljmgphgmklcaa.PRate.Rate)) (x : Go.Proofs.Ytlljmgphgmklcaa.PCover.Cover) (A0 : Option Addr) (c0 : Nat)  (w : World) (M0 : Hid (Cells w 5 A0 rates.length (Go.Proofs.Ytlljmgphgmklcaa.PRate.flat rates))) (N0 : Hid (rates.length ≤ 9223372036854775807))  {r : Int} (H : Hid (P rates x = some r)) :
    Calls Try.prog 102 #[.slice A0 rates.length c0, x.val] w (Gives (.int .i64 r) w) := by
  have HB := Lib.hid (Below.refl w.heap.size w)
  unfold P at H
  obtain ⟨x_id, x_day, x_zone, x_grams, x_paid, x_from_, x_to_, x_leave, x_arrive⟩ := x
  replace H := unCover_hid H
  unfold Go.Proofs.Ytlljmgphgmklcaa.PCover.Cover.val
  have N0o := N0.out
  go_enter Try.func102, Try.ntmps102
  obtain ⟨w_x_0, hw_x_0⟩ : ∃ x, w.alloc (.cells #[.int .i64 x_id, .int .i64 x_day, .int .i64 x_zone, .int .i64 x_grams, .int .i64 x_paid, .int .i64 x_from_, .int .i64 x_to_, .int .i64 x_leave, .int .i64 x_arrive] 25) = x := ⟨_, rfl⟩
  have bw_x_0 : Below w.heap.size w w_x_0 := by rw [← hw_x_0]; exact (Below.refl _ _).alloc (Nat.le_refl _) _
  have HBw_x_0 := Lib.hid (Below.step HB.out bw_x_0)
  clear bw_x_0
  have kx_0_0 : w_x_0.cell? ⟨w.heap.size, 0, none⟩ = some (.int .i64 x_id) := by rw [← hw_x_0]; exact box_new _ _ _ 0 _ rfl
  have kx_0_1 : w_x_0.cell? ⟨w.heap.size, 1, none⟩ = some (.int .i64 x_day) := by rw [← hw_x_0]; exact box_new _ _ _ 1 _ rfl
  have kx_0_2 : w_x_0.cell? ⟨w.heap.size, 2, none⟩ = some (.int .i64 x_zone) := by rw [← hw_x_0]; exact box_new _ _ _ 2 _ rfl
  have kx_0_3 : w_x_0.cell? ⟨w.heap.size, 3, none⟩ = some (.int .i64 x_grams) := by rw [← hw_x_0]; exact box_new _ _ _ 3 _ rfl
  have kx_0_4 : w_x_0.cell? ⟨w.heap.size, 4, none⟩ = some (.int .i64 x_paid) := by rw [← hw_x_0]; exact box_new _ _ _ 4 _ rfl
  have kx_0_5 : w_x_0.cell? ⟨w.heap.size, 5, none⟩ = some (.int .i64 x_from_) := by rw [← hw_x_0]; exact box_new _ _ _ 5 _ rfl
  have kx_0_6 : w_x_0.cell? ⟨w.heap.size, 6, none⟩ = some (.int .i64 x_to_) := by rw [← hw_x_0]; exact box_new _ _ _ 6 _ rfl
  have kx_0_7 : w_x_0.cell? ⟨w.heap.size, 7, none⟩ = some (.int .i64 x_leave) := by rw [← hw_x_0]; exact box_new _ _ _ 7 _ rfl
  have kx_0_8 : w_x_0.cell? ⟨w.heap.size, 8, none⟩ = some (.int .i64 x_arrive) := by rw [← hw_x_0]; exact box_new _ _ _ 8 _ rfl
  replace H := bind_hid H
  obtain ⟨t_9, qt_9, H⟩ := H
  go_wp2_with fail
  go_at_call 131
  refine (Go.Proofs.Ytlljmgphgmklcaa.GiRateOn.C (rates) (x_day) (x_zone) (x_grams) A0 c0 _   (Lib.hid (Cells.below M0.out HBw_x_0.out)) N0 qt_9).mono ?_
  rintro e_t_9 wt_9 ⟨rfl, bt_9⟩
  have HBwt_9 := Lib.hid (Below.step HBw_x_0.out bt_9)
  replace kx_0_0 := cell_below bt_9 kx_0_0
  replace kx_0_1 := cell_below bt_9 kx_0_1
  replace kx_0_2 := cell_below bt_9 kx_0_2
  replace kx_0_3 := cell_below bt_9 kx_0_3
  replace kx_0_4 := cell_below bt_9 kx_0_4
  replace kx_0_5 := cell_below bt_9 kx_0_5
  replace kx_0_6 := cell_below bt_9 kx_0_6
  replace kx_0_7 := cell_below bt_9 kx_0_7
  replace kx_0_8 := cell_below bt_9 kx_0_8
  clear bt_9
  obtain rfl := ret_hid H
  go_wp2_with fail
  go_ret
  exact ⟨rfl, HBwt_9.out⟩
end Go.Proofs.Ytlljmgphgmklcaa.GiRateOfCover

/- Plain words on the arrays of 10 numbers: the cells, a list of them as cells one after the other. No condition. -/
namespace Go.Proofs.Ytlljmgphgmklcaa.PIntA10
set_option linter.unusedVariables false
set_option maxRecDepth 100000

structure IntA10 where
  x0 : Int
  x1 : Int
  x2 : Int
  x3 : Int
  x4 : Int
  x5 : Int
  x6 : Int
  x7 : Int
  x8 : Int
  x9 : Int
def IntA10.cells (s : IntA10) : List Value := [.int .i64 s.x0, .int .i64 s.x1, .int .i64 s.x2, .int .i64 s.x3, .int .i64 s.x4, .int .i64 s.x5, .int .i64 s.x6, .int .i64 s.x7, .int .i64 s.x8, .int .i64 s.x9]
def IntA10.val (s : IntA10) : Value := .agg #[.int .i64 s.x0, .int .i64 s.x1, .int .i64 s.x2, .int .i64 s.x3, .int .i64 s.x4, .int .i64 s.x5, .int .i64 s.x6, .int .i64 s.x7, .int .i64 s.x8, .int .i64 s.x9]
def IntA10.list (s : IntA10) : List Int := [s.x0, s.x1, s.x2, s.x3, s.x4, s.x5, s.x6, s.x7, s.x8, s.x9]
/-- the array with v at j -/
def IntA10.put (s : IntA10) (j v : Int) : IntA10 := if j = 0 then ⟨v, s.x1, s.x2, s.x3, s.x4, s.x5, s.x6, s.x7, s.x8, s.x9⟩ else if j = 1 then ⟨s.x0, v, s.x2, s.x3, s.x4, s.x5, s.x6, s.x7, s.x8, s.x9⟩ else if j = 2 then ⟨s.x0, s.x1, v, s.x3, s.x4, s.x5, s.x6, s.x7, s.x8, s.x9⟩ else if j = 3 then ⟨s.x0, s.x1, s.x2, v, s.x4, s.x5, s.x6, s.x7, s.x8, s.x9⟩ else if j = 4 then ⟨s.x0, s.x1, s.x2, s.x3, v, s.x5, s.x6, s.x7, s.x8, s.x9⟩ else if j = 5 then ⟨s.x0, s.x1, s.x2, s.x3, s.x4, v, s.x6, s.x7, s.x8, s.x9⟩ else if j = 6 then ⟨s.x0, s.x1, s.x2, s.x3, s.x4, s.x5, v, s.x7, s.x8, s.x9⟩ else if j = 7 then ⟨s.x0, s.x1, s.x2, s.x3, s.x4, s.x5, s.x6, v, s.x8, s.x9⟩ else if j = 8 then ⟨s.x0, s.x1, s.x2, s.x3, s.x4, s.x5, s.x6, s.x7, v, s.x9⟩ else ⟨s.x0, s.x1, s.x2, s.x3, s.x4, s.x5, s.x6, s.x7, s.x8, v⟩
theorem cells_put (s : IntA10) {n : Nat} (h : n < 10) (v : Int) : s.cells.set n (.int .i64 v) = (s.put (n : Int) v).cells := by
  rcases n with _ | _ | _ | _ | _ | _ | _ | _ | _ | _ | n
  · rfl
  · rfl
  · rfl
  · rfl
  · rfl
  · rfl
  · rfl
  · rfl
  · rfl
  · rfl
  · omega
theorem cell_at {w : World} {b q : Nat} {x0 x1 x2 x3 x4 x5 x6 x7 x8 x9 y : Int} {n : Nat} (h0 : w.cell? ⟨b, q, none⟩ = some (.int .i64 x0)) (h1 : w.cell? ⟨b, q + 1, none⟩ = some (.int .i64 x1)) (h2 : w.cell? ⟨b, q + 2, none⟩ = some (.int .i64 x2)) (h3 : w.cell? ⟨b, q + 3, none⟩ = some (.int .i64 x3)) (h4 : w.cell? ⟨b, q + 4, none⟩ = some (.int .i64 x4)) (h5 : w.cell? ⟨b, q + 5, none⟩ = some (.int .i64 x5)) (h6 : w.cell? ⟨b, q + 6, none⟩ = some (.int .i64 x6)) (h7 : w.cell? ⟨b, q + 7, none⟩ = some (.int .i64 x7)) (h8 : w.cell? ⟨b, q + 8, none⟩ = some (.int .i64 x8)) (h9 : w.cell? ⟨b, q + 9, none⟩ = some (.int .i64 x9)) (g : [x0, x1, x2, x3, x4, x5, x6, x7, x8, x9][n]? = some y) : w.cell? ⟨b, q + n, none⟩ = some (.int .i64 y) := by
  rcases n with _ | _ | _ | _ | _ | _ | _ | _ | _ | _ | n
  · obtain rfl := Option.some.inj g; exact h0
  · obtain rfl := Option.some.inj g; exact h1
  · obtain rfl := Option.some.inj g; exact h2
  · obtain rfl := Option.some.inj g; exact h3
  · obtain rfl := Option.some.inj g; exact h4
  · obtain rfl := Option.some.inj g; exact h5
  · obtain rfl := Option.some.inj g; exact h6
  · obtain rfl := Option.some.inj g; exact h7
  · obtain rfl := Option.some.inj g; exact h8
  · obtain rfl := Option.some.inj g; exact h9
  · simp at g
/-- the cells of a list of arrays, one after the other -/
def flat (l : List IntA10) : List Value := l.flatMap IntA10.cells
theorem flat_nil : flat [] = [] := rfl
theorem flat_cons (s : IntA10) (l : List IntA10) : flat (s :: l) = s.cells ++ flat l := by simp [flat]
theorem flat_snoc (l : List IntA10) (s : IntA10) : flat (l ++ [s]) = flat l ++ s.cells := by simp [flat]
theorem flat_len (l : List IntA10) : (flat l).length = l.length * 10 := by
  induction l with
  | nil => rfl
  | cons s l ih => rw [flat_cons, List.length_append, ih]; simp [IntA10.cells]; omega
theorem flat_at : ∀ (l : List IntA10) (k : Nat) (s : IntA10), l[k]? = some s → ∀ j, j < 10 → (flat l)[k * 10 + j]? = s.cells[j]?
  | [], k, s, h, _, _ => by simp at h
  | r :: l, 0, s, h, j, hj => by
    obtain rfl : r = s := by simpa using h
    rw [flat_cons, List.getElem?_append_left (by simp [IntA10.cells]; omega)]; simp
  | r :: l, k + 1, s, h, j, hj => by
    rw [flat_cons, List.getElem?_append_right (by simp [IntA10.cells]; omega), show (k + 1) * 10 + j - r.cells.length = k * 10 + j by simp [IntA10.cells]; omega]
    exact flat_at l k s (by simpa using h) j hj
end Go.Proofs.Ytlljmgphgmklcaa.PIntA10

/- A record IntA10 opened into its fields. No condition. -/
namespace Go.Proofs.Ytlljmgphgmklcaa.GoP
set_option linter.unusedVariables false
open Go.RowKit
def unIntA10 {ρ : Type} (s : Go.Proofs.Ytlljmgphgmklcaa.PIntA10.IntA10) (f : Int → Int → Int → Int → Int → Int → Int → Int → Int → Int → Option ρ) : Option ρ := f s.x0 s.x1 s.x2 s.x3 s.x4 s.x5 s.x6 s.x7 s.x8 s.x9
theorem unIntA10_hid {ρ : Type} {x0 : Int} {x1 : Int} {x2 : Int} {x3 : Int} {x4 : Int} {x5 : Int} {x6 : Int} {x7 : Int} {x8 : Int} {x9 : Int} {f : Int → Int → Int → Int → Int → Int → Int → Int → Int → Int → Option ρ} {r : ρ} (H : Hid (unIntA10 ⟨x0, x1, x2, x3, x4, x5, x6, x7, x8, x9⟩ f = some r)) : Hid (f x0 x1 x2 x3 x4 x5 x6 x7 x8 x9 = some r) := H
end Go.Proofs.Ytlljmgphgmklcaa.GoP

/- Words on arrays that are variables, and on jumps back to a label. No condition but those of each theorem. -/
namespace Go.Proofs.Ytlljmgphgmklcaa.GoA
set_option linter.unusedVariables false
open Go.RowKit
open Go.Proofs.Ytlljmgphgmklcaa.HelpInt

/-- the number at a place of an array's list -/
def nth (l : List Int) (j : Nat) : Int := l.getD j 0
theorem row_at {w : World} {b T n c g : Nat} {l : List Int} (h : w.ownsRow b T 1 (.slice (some ⟨g, 0, none⟩) n c) n (iv l)) (hl : l.length = n) (j : Nat) (hj : j < n) : w.cell? ⟨g, j, none⟩ = some (.int .i64 (nth l j)) := by
  unfold nth
  have hc := h.cells rfl j (.int .i64 (l.getD j 0)) (by
    rw [iv_at, List.getD_eq_getElem?_getD, List.getElem?_eq_getElem (show j < l.length by omega)]; rfl)
  rw [add_none] at hc
  simpa using hc

/-- what holds at a jump to a label: a relation that bears a number, which each pass from the label to the next jump lowers -/
def Jumps (P : Program) (rest : Code) (l : Nat) (Q : Exit → Act → World → Prop) (a : Act) (w : World) (m : Nat) : Prop :=
  ∃ J : Nat → Act → World → Prop, J m a w ∧ ∀ m a w, J m a w → rest.wp P (Exit.jump l (Handed J m) Q) a w

theorem jump_mono {l : Nat} {J J' : Act → World → Prop} {Q : Exit → Act → World → Prop} (h : ∀ a w, J a w → J' a w) : ∀ e a w, Exit.jump l J Q e a w → Exit.jump l J' Q e a w := by
  intro e a w he
  cases e with
  | goto l' => exact ⟨he.1, h _ _ he.2⟩
  | _ => exact he

theorem wp_scope_goto {P : Program} {A rest : Code} {l : Nat} {Q : Exit → Act → World → Prop} {a : Act} {w : World} (hf : findLabel (Code.seq A (Code.seq (Code.label l) rest)) l = some (Code.seq Code.skip rest))
    (first : ∀ K : Act → World → Prop, (∀ a w, (∃ m, Jumps P rest l Q a w m) → K a w) → A.wp P (Exit.then K (fun _ _ _ => False)) a w) :
    (Code.scope (Code.seq A (Code.seq (Code.label l) rest))).wp P Q a w := by
  have pass : ∀ m a w, Jumps P rest l Q a w m → rest.wp P (Exit.jump l (fun a' w' => ∃ m', m' < m ∧ Jumps P rest l Q a' w' m') Q) a w := by
    rintro m a w ⟨J, hJ, hp⟩
    refine wp_mono (hp m a w hJ) (jump_mono ?_)
    rintro a' w' ⟨m', hlt, hJ'⟩
    exact ⟨m', hlt, J, hJ', hp⟩
  refine wp_scope_jumps l (fun a w => ∃ m, Jumps P rest l Q a w m) (fun a w => leastOf (Jumps P rest l Q a w)) hf ?_ ?_
  · refine wp_seq (wp_mono (first _ fun _ _ h => h) ?_)
    intro e a1 w1 he
    cases e with
    | normal =>
      obtain ⟨m, hm⟩ := he
      refine wp_seq (wp_label ?_)
      refine wp_mono (pass m a1 w1 hm) (jump_mono ?_)
      rintro a' w' ⟨m', _, h'⟩
      exact ⟨m', h'⟩
    | _ => exact he.elim
  · intro a1 w1 h1
    refine wp_seq (wp_skip ?_)
    have hl := (leastOf_spec h1).1
    refine wp_mono (pass _ a1 w1 hl) (jump_mono ?_)
    rintro a' w' ⟨m', hlt, h'⟩
    exact ⟨⟨m', h'⟩, Nat.lt_of_le_of_lt ((leastOf_spec ⟨m', h'⟩).2 m' h') hlt⟩

/-- the frame with the slots that are marked put to new values -/
def over (u : Nat → Value) : List Bool → Nat → List Value → List Value
  | true :: bs, i, _ :: l => u i :: over u bs (i + 1) l
  | false :: bs, i, v :: l => v :: over u bs (i + 1) l
  | [], _, l => l
  | _ :: _, _, [] => []
theorem over_self (bs : List Bool) : ∀ (i : Nat) (l : List Value) (u : Nat → Value), (∀ j, j < l.length → u (i + j) = l.getD j undef) → over u bs i l = l := by
  induction bs with
  | nil => intro i l u h; cases l <;> rfl
  | cons b bs ih =>
    intro i l u h
    cases l with
    | nil => cases b <;> rfl
    | cons v l =>
      have h0 := h 0 (by simp)
      have ht := ih (i + 1) l u (fun j hj => by
        have := h (j + 1) (by simp; omega)
        rw [show i + 1 + j = i + (j + 1) by omega, this]; rfl)
      cases b
      · show v :: over u bs (i + 1) l = _; rw [ht]
      · show u i :: over u bs (i + 1) l = _; rw [ht]
        have : u i = v := h0
        rw [this]
/-- the pass from the label, as the walk wants it: the frame stands at the label the first time; the marked slots change -/
theorem jumps_intro {P : Program} {rest : Code} {l : Nat} {Q : Exit → Act → World → Prop} {ts : List Value} {de : List Deferred} {w : World} (bs : List Bool) (m : Nat) (R : Nat → (Nat → Value) → World → Prop)
    (start : R m (fun i => ts.getD i undef) w)
    (pass : ∀ m u w, R m u w → ∀ J : Nat → Act → World → Prop, (∀ m u w a, a = ⟨(over u bs 0 ts).toArray, de⟩ → R m u w → J m a w) → rest.wp P (Exit.jump l (Handed J m) Q) ⟨(over u bs 0 ts).toArray, de⟩ w) :
    ∃ m, Jumps P rest l Q ⟨ts.toArray, de⟩ w m := by
  refine ⟨m, fun m a w => ∃ u, a = ⟨(over u bs 0 ts).toArray, de⟩ ∧ R m u w, ⟨fun i => ts.getD i undef, ?_, start⟩, ?_⟩
  · rw [over_self bs 0 ts _ (fun j _ => by rw [Nat.zero_add])]
  · rintro m a w ⟨u, rfl, hR⟩
    exact pass m u w hR _ fun m u w a e h => ⟨u, e, h⟩
theorem handed_goto {J : Nat → Act → World → Prop} {R : Nat → (Nat → Value) → World → Prop} {bs : List Bool} {ts ts' : List Value} {de : List Deferred} {w : World} {m : Nat}
    (hJ : ∀ m u w a, a = ⟨(over u bs 0 ts).toArray, de⟩ → R m u w → J m a w) (m' : Nat) (hlt : m' < m) (he : ts' = over (fun i => ts'.getD i undef) bs 0 ts) (hR : R m' (fun i => ts'.getD i undef) w) : Handed J m ⟨ts'.toArray, de⟩ w :=
  Handed.intro m' hlt (hJ m' _ w _ (congrArg (fun z => (⟨z.toArray, de⟩ : Act)) he) hR)
end Go.Proofs.Ytlljmgphgmklcaa.GoA

