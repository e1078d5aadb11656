/- Texts on which the proofs of several laws stand, one behind the other (10 of 18). No condition of their own. -/
import Derived.Test.YtgbcdmlcmnaimaaChecked
import Derived.Test.YtgbcdmlcmnaimaaX10P1
import Derived.Test.YtgbcdmlcmnaimaaX10P9
import Derived.WalkKit
import Derived.WalkSpells
import Derived.WalkLawsBesides
import Derived.BigQuiet
import Derived.OwnWalk
import Derived.Deep.LoopGhost
import Derived.Deep.QuietTactic
import Derived.IntWalk
import Derived.Lib.QuietBelow
import Derived.Test.YtgbcdmlcmnaimaaX10P8
import Derived.Test.YtgbcdmlcmnaimaaX10P7
import Derived.Test.YtgbcdmlcmnaimaaX10P4
import Derived.StillTailTactics
set_option linter.unusedVariables false
set_option linter.unusedSimpArgs false
namespace Go.Proofs.Ytgbcdmlcmnaimaa.GsL10Fault
open Go.RowKit
open Go.Proofs.Ytgbcdmlcmnaimaa.Rowed Go.Proofs.Ytgbcdmlcmnaimaa.Turn Go.Proofs.Ytgbcdmlcmnaimaa.Aid Go.Proofs.Ytgbcdmlcmnaimaa.GoP Go.Proofs.Ytgbcdmlcmnaimaa.GoM

def P (rates : (List PRate.Rate)) (mails : (List PMail.Mail)) (x : PCover.Cover) : Option (Int) :=
 unCover x fun (x_id : Int) (x_day : Int) (x_zone : Int) (x_grams : Int) (x_paid : Int) (x_from_ : Int) (x_to_ : Int) (x_leave : Int) (x_arrive : Int) =>
 Option.bind (GsL8For.P rates x_day x_zone x_grams) fun (t_9 : Int) =>
 Option.bind (GsL9Times.P mails x_from_ x_leave) fun (t_16 : (List Int)) =>
 Option.bind (idx t_16 x_to_) fun (yt_19 : Int) =>
 letK (t_9 == 0) fun (t_23 : Bool) =>
 iteK t_23
 (some 1)
 (letK (decide (x_paid < t_9)) fun (t_29 : Bool) =>
 iteK t_29
 (some 2)
 (letK (IntKind.i64.wrap (2 * t_9)) fun (t_35 : Int) =>
 letK (decide (t_35 < x_paid)) fun (t_36 : Bool) =>
 iteK t_36
 (some 3)
 (letK (yt_19 == 10000) fun (t_40 : Bool) =>
 iteK t_40
 (some 4)
 (letK (decide (x_arrive < yt_19)) fun (t_46 : Bool) =>
 iteK t_46
 (some 5)
 (some 0)))))

set_option maxRecDepth 100000 in
set_option maxHeartbeats 2000000 in
theorem C (rates : (List PRate.Rate)) (mails : (List PMail.Mail)) (x : PCover.Cover) (A0 : Option Addr) (c0 : Nat) (A1 : Option Addr) (c1 : Nat)  (w : World) (M0 : Hid (Cells w 5 A0 rates.length (PRate.flat rates))) (N0 : Hid (rates.length ≤ 9223372036854775807)) (M1 : Hid (Cells w 4 A1 mails.length (PMail.flat mails))) (N1 : Hid (mails.length ≤ 9223372036854775807))  {r : Int} (H : Hid (P rates mails x = some r)) :
  Calls Try.prog 42 #[.slice A0 rates.length c0, .slice A1 mails.length c1, x.val] w (Gives (.int .i64 r) w) := by
 have HB := Lib.hid (Below.refl w.heap.size w); unfold P at H; obtain ⟨x_id, x_day, x_zone, x_grams, x_paid, x_from_, x_to_, x_leave, x_arrive⟩ := x; replace H := unCover_hid H; unfold PCover.Cover.val; have N0o := N0.out; have N1o := N1.out
 go_enter Try.func42, Try.ntmps42
 obtain ⟨h10, f10⟩ : ∃ x, w.alloc (.cells #[.int .i64 x_id, .int .i64 x_day, .int .i64 x_zone, .int .i64 x_grams, .int .i64 x_paid, .int .i64 x_from_, .int .i64 x_to_, .int .i64 x_leave, .int .i64 x_arrive] 27) = x := ⟨_, rfl⟩; have v10 : Below w.heap.size w h10 := (by rw [← f10]; exact (Below.refl _ _).alloc (Nat.le_refl _) _); have z10 := Lib.hid (Below.step HB.out v10); clear v10; have a10 : h10.cell? ⟨w.heap.size, 0, none⟩ = some (.int .i64 x_id) := (by rw [← f10]; exact box_new _ _ _ 0 _ rfl); have e10 : h10.cell? ⟨w.heap.size, 1, none⟩ = some (.int .i64 x_day) := (by rw [← f10]; exact box_new _ _ _ 1 _ rfl); have k10 : h10.cell? ⟨w.heap.size, 2, none⟩ = some (.int .i64 x_zone) := (by rw [← f10]; exact box_new _ _ _ 2 _ rfl); have i10 : h10.cell? ⟨w.heap.size, 3, none⟩ = some (.int .i64 x_grams) := (by rw [← f10]; exact box_new _ _ _ 3 _ rfl); have j10 : h10.cell? ⟨w.heap.size, 4, none⟩ = some (.int .i64 x_paid) := (by rw [← f10]; exact box_new _ _ _ 4 _ rfl); have d10 : h10.cell? ⟨w.heap.size, 5, none⟩ = some (.int .i64 x_from_) := (by rw [← f10]; exact box_new _ _ _ 5 _ rfl); have g10 : h10.cell? ⟨w.heap.size, 6, none⟩ = some (.int .i64 x_to_) := (by rw [← f10]; exact box_new _ _ _ 6 _ rfl); have c10 : h10.cell? ⟨w.heap.size, 7, none⟩ = some (.int .i64 x_leave) := (by rw [← f10]; exact box_new _ _ _ 7 _ rfl); have m10 : h10.cell? ⟨w.heap.size, 8, none⟩ = some (.int .i64 x_arrive) := (by rw [← f10]; exact box_new _ _ _ 8 _ rfl); replace H := bind_hid H; obtain ⟨t_9, qt_9, H⟩ := H; go_wp2_with fail; go_at_call 45; refine (GsL8For.C (rates) (x_day) (x_zone) (x_grams) A0 c0 _   (Lib.hid (Cells.below M0.out z10.out)) N0 qt_9).mono ?_; rintro t11 wt_9 ⟨rfl, bt_9⟩; have o10 := Lib.hid (Below.step z10.out bt_9); replace a10 := cell_below bt_9 a10; replace e10 := cell_below bt_9 e10; replace k10 := cell_below bt_9 k10; replace i10 := cell_below bt_9 i10; replace j10 := cell_below bt_9 j10; replace d10 := cell_below bt_9 d10; replace g10 := cell_below bt_9 g10; replace c10 := cell_below bt_9 c10; replace m10 := cell_below bt_9 m10; clear bt_9; go_wp2_with fail; have bd2 : Below wt_9.heap.size wt_9 wt_9.drew := (Below.refl _ _).drew; have o10.drew := Lib.hid (Below.step o10.out bd2); replace a10 := cell_below bd2 a10; replace e10 := cell_below bd2 e10; replace k10 := cell_below bd2 k10; replace i10 := cell_below bd2 i10; replace j10 := cell_below bd2 j10; replace d10 := cell_below bd2 d10; replace g10 := cell_below bd2 g10; replace c10 := cell_below bd2 c10; replace m10 := cell_below bd2 m10; clear bd2; replace H := bind_hid H; obtain ⟨t_16, t10, H⟩ := H; replace H := idx_hid H; obtain ⟨l10, y10, b11, j11, a11, H⟩ := H; subst b11; refine wp_region_held_drew (S := fun w' => w'.cell? ⟨w.heap.size, 0, none⟩ = some (.int .i64 x_id) ∧ w'.cell? ⟨w.heap.size, 1, none⟩ = some (.int .i64 x_day) ∧ w'.cell? ⟨w.heap.size, 2, none⟩ = some (.int .i64 x_zone) ∧ w'.cell? ⟨w.heap.size, 3, none⟩ = some (.int .i64 x_grams) ∧ w'.cell? ⟨w.heap.size, 4, none⟩ = some (.int .i64 x_paid) ∧ w'.cell? ⟨w.heap.size, 5, none⟩ = some (.int .i64 x_from_) ∧ w'.cell? ⟨w.heap.size, 6, none⟩ = some (.int .i64 (l10 : Int)) ∧ w'.cell? ⟨w.heap.size, 7, none⟩ = some (.int .i64 x_leave) ∧ w'.cell? ⟨w.heap.size, 8, none⟩ = some (.int .i64 x_arrive) ∧ Hid (0 ≤ w'.heap.size)) (by kernel_rfl) ⟨a10, e10, k10, i10, j10, d10, g10, c10, m10, Lib.hid (Nat.zero_le _)⟩ (fun hHeld => ?_); refine wpAnyH_take (i := 0) (oi := _) (v := ?_) rfl (by kernel_rfl) (by kernel_rfl) (by kernel_rfl) (fun _ _ _ h => h) (Or.inl ⟨by rfl, ?_⟩) (by assumption) ?_
 rotate_left
 ·
  intro w hSw
  (try dsimp only at hSw)
  (try simp only [List.getElem_toArray, List.getElem_cons_zero, List.getElem_cons_succ])
  go_simp
  (try with_reducible rfl)
 try simp only [Act.put, List.getElem_toArray, List.getElem_cons_zero, List.getElem_cons_succ, List.setIfInBounds_toArray, List.set_cons_zero, List.set_cons_succ]
 refine wpAnyH_take (i := 1) (oi := _) (v := ?_) rfl (by kernel_rfl) (by kernel_rfl) (by kernel_rfl) (fun _ _ _ h => h) (Or.inl ⟨by rfl, ?_⟩) (by assumption) ?_
 rotate_left
 ·
  intro w hSw
  (try dsimp only at hSw)
  (try simp only [List.getElem_toArray, List.getElem_cons_zero, List.getElem_cons_succ])
  go_simp
  (try with_reducible rfl)
 try simp only [Act.put, List.getElem_toArray, List.getElem_cons_zero, List.getElem_cons_succ, List.setIfInBounds_toArray, List.set_cons_zero, List.set_cons_succ]
 refine wpAnyH_take (i := 2) (oi := _) (v := ?_) rfl (by kernel_rfl) (by kernel_rfl) (by kernel_rfl) (fun _ _ _ h => h) (Or.inl ⟨by rfl, ?_⟩) (by assumption) ?_
 rotate_left
 ·
  intro w hSw
  (try dsimp only at hSw)
  (try simp only [List.getElem_toArray, List.getElem_cons_zero, List.getElem_cons_succ])
  go_simp
  (try with_reducible rfl)
 try simp only [Act.put, List.getElem_toArray, List.getElem_cons_zero, List.getElem_cons_succ, List.setIfInBounds_toArray, List.set_cons_zero, List.set_cons_succ]
 refine wpAnyH_take (i := 3) (oi := _) (v := ?_) rfl (by kernel_rfl) (by kernel_rfl) (by kernel_rfl) (fun _ _ _ h => h) (Or.inl ⟨by rfl, ?_⟩) (by assumption) ?_
 rotate_left
 ·
  intro w hSw
  (try dsimp only at hSw)
  (try simp only [List.getElem_toArray, List.getElem_cons_zero, List.getElem_cons_succ])
  go_simp
  (try with_reducible rfl)
 try simp only [Act.put, List.getElem_toArray, List.getElem_cons_zero, List.getElem_cons_succ, List.setIfInBounds_toArray, List.set_cons_zero, List.set_cons_succ]
 refine wpAnyH_take (i := 4) (oi := _) (v := ?_) rfl (by kernel_rfl) (by kernel_rfl) (by kernel_rfl) (fun _ _ _ h => h) (Or.inl ⟨by rfl, ?_⟩) (by assumption) ?_
 rotate_left
 ·
  intro w hSw
  (try dsimp only at hSw)
  (try simp only [List.getElem_toArray, List.getElem_cons_zero, List.getElem_cons_succ])
  go_simp
  (try with_reducible rfl)
 try simp only [Act.put, List.getElem_toArray, List.getElem_cons_zero, List.getElem_cons_succ, List.setIfInBounds_toArray, List.set_cons_zero, List.set_cons_succ]
 refine wpAnyH_take (i := 6) (oi := _) (v := ?_) rfl (by kernel_rfl) (by kernel_rfl) (by kernel_rfl) (fun _ _ _ h => h) (Or.inl ⟨by rfl, ?_⟩) (by assumption) ?_
 rotate_left
 ·
  intro w hSw
  (try dsimp only at hSw)
  (try simp only [List.getElem_toArray, List.getElem_cons_zero, List.getElem_cons_succ])
  go_simp
  (try with_reducible rfl)
 try simp only [Act.put, List.getElem_toArray, List.getElem_cons_zero, List.getElem_cons_succ, List.setIfInBounds_toArray, List.set_cons_zero, List.set_cons_succ]
 refine wpAnyH_take (i := 7) (oi := _) (v := ?_) rfl (by kernel_rfl) (by kernel_rfl) (by kernel_rfl) (fun _ _ _ h => h) (Or.inl ⟨by rfl, ?_⟩) (by assumption) ?_
 rotate_left
 ·
  intro w hSw
  (try dsimp only at hSw)
  (try simp only [List.getElem_toArray, List.getElem_cons_zero, List.getElem_cons_succ])
  go_simp
  (try with_reducible rfl)
 try simp only [Act.put, List.getElem_toArray, List.getElem_cons_zero, List.getElem_cons_succ, List.setIfInBounds_toArray, List.set_cons_zero, List.set_cons_succ]
 refine wpAnyH_ready (rs := [5]) (by kernel_rfl) (by simp) ?_; refine AllReadyH.cons (o := _) rfl (fun K_ hK_ => ?_) AllReadyH.nil
 (try simp only [List.getElem_toArray, List.getElem_cons_zero, List.getElem_cons_succ])
 go_simp
 go_at_call 87; refine (GsL9Times.C (mails) (x_from_) (x_leave) A1 c1 _   (Lib.hid (Cells.below M1.out o10.drew.out)) N1 t10).mono ?_; rintro v11 c11 ⟨q11, e11, rfl, p10, b10⟩; have m11 := Lib.hid (apart_callbox p10 a10); have w10 := Lib.hid (own_lower p10 o10.drew.out.size); clear p10; have n10 := Lib.hid (Below.step o10.drew.out b10); replace a10 := cell_below b10 a10; replace e10 := cell_below b10 e10; replace k10 := cell_below b10 k10; replace i10 := cell_below b10 i10; replace j10 := cell_below b10 j10; replace d10 := cell_below b10 d10; replace g10 := cell_below b10 g10; replace c10 := cell_below b10 c10; replace m10 := cell_below b10 m10; clear b10; clear t10
 first | refine hK_.out _ _ ⟨a10, e10, k10, i10, j10, d10, g10, c10, m10, Lib.hid (Nat.zero_le _)⟩ (fun hHeld => ?_) | (go_wp2_with fail; refine hK_.out _ _ ⟨a10, e10, k10, i10, j10, d10, g10, c10, m10, Lib.hid (Nat.zero_le _)⟩ (fun hHeld => ?_))
 clear hK_ K_
 try simp only [Act.put, List.getElem_toArray, List.getElem_cons_zero, List.getElem_cons_succ, List.setIfInBounds_toArray, List.set_cons_zero, List.set_cons_succ]
 obtain ⟨q10, d11⟩ := own_some w10.out (by omega); subst d11; obtain ⟨s11, k11, l11, s10, r10, x10⟩ := HelpInt.Ints.at_ (own_cells w10.out) (k := l10) (by omega); obtain rfl := Option.some.inj (a11.out.symm.trans r10); simp only [Option.some.injEq, Addr.mk.injEq] at s10; obtain ⟨rfl, rfl, _⟩ := s10; clear r10; simp only [Nat.zero_add] at x10; have p11 : (0 : Int) ≤ (l10 : Int) := (by omega); have n11 : (l10 : Int) < ((t_16.length : Nat) : Int) := (by omega); have r11 : ((l10 : Int)).toNat = l10 := (by omega); refine wpAnyH_take (i := 8) (oi := _) (v := ?_) rfl (by kernel_rfl) (by kernel_rfl) (by kernel_rfl) (fun _ _ _ h => h) (Or.inl ⟨by rfl, ?_⟩) (by assumption) ?_
 rotate_left
 ·
  intro w hSw
  (try dsimp only at hSw)
  (try simp only [List.getElem_toArray, List.getElem_cons_zero, List.getElem_cons_succ])
  go_simp
  (try with_reducible rfl)
 try simp only [Act.put, List.getElem_toArray, List.getElem_cons_zero, List.getElem_cons_succ, List.setIfInBounds_toArray, List.set_cons_zero, List.set_cons_succ]
 refine GoR.wpAnyH_more (S' := fun w' => w'.cell? ⟨w.heap.size, 0, none⟩ = some (.int .i64 x_id) ∧ w'.cell? ⟨w.heap.size, 1, none⟩ = some (.int .i64 x_day) ∧ w'.cell? ⟨w.heap.size, 2, none⟩ = some (.int .i64 x_zone) ∧ w'.cell? ⟨w.heap.size, 3, none⟩ = some (.int .i64 x_grams) ∧ w'.cell? ⟨w.heap.size, 4, none⟩ = some (.int .i64 x_paid) ∧ w'.cell? ⟨w.heap.size, 5, none⟩ = some (.int .i64 x_from_) ∧ w'.cell? ⟨w.heap.size, 6, none⟩ = some (.int .i64 (l10 : Int)) ∧ w'.cell? ⟨w.heap.size, 7, none⟩ = some (.int .i64 x_leave) ∧ w'.cell? ⟨w.heap.size, 8, none⟩ = some (.int .i64 x_arrive) ∧ w'.cell? ⟨q10, l10, none⟩ = some (.int .i64 y10) ∧ Hid (0 ≤ w'.heap.size)) (fun w' hS_ => ?_) _ _ _ _ ?_
 ·
  go_split_ands; (repeat' apply And.intro) <;> first | assumption | exact Lib.hid (Nat.zero_le _)
 have hHeld : (fun w' => w'.cell? ⟨w.heap.size, 0, none⟩ = some (.int .i64 x_id) ∧ w'.cell? ⟨w.heap.size, 1, none⟩ = some (.int .i64 x_day) ∧ w'.cell? ⟨w.heap.size, 2, none⟩ = some (.int .i64 x_zone) ∧ w'.cell? ⟨w.heap.size, 3, none⟩ = some (.int .i64 x_grams) ∧ w'.cell? ⟨w.heap.size, 4, none⟩ = some (.int .i64 x_paid) ∧ w'.cell? ⟨w.heap.size, 5, none⟩ = some (.int .i64 x_from_) ∧ w'.cell? ⟨w.heap.size, 6, none⟩ = some (.int .i64 (l10 : Int)) ∧ w'.cell? ⟨w.heap.size, 7, none⟩ = some (.int .i64 x_leave) ∧ w'.cell? ⟨w.heap.size, 8, none⟩ = some (.int .i64 x_arrive) ∧ w'.cell? ⟨q10, l10, none⟩ = some (.int .i64 y10) ∧ Hid (0 ≤ w'.heap.size)) c11 := ⟨a10, e10, k10, i10, j10, d10, g10, c10, m10, x10, Lib.hid (Nat.zero_le _)⟩; refine wpAnyH_take (i := 9) (oi := _) (v := ?_) rfl (by kernel_rfl) (by kernel_rfl) (by kernel_rfl) (fun _ _ _ h => h) (Or.inl ⟨by rfl, ?_⟩) (by assumption) ?_
 rotate_left
 ·
  intro w hSw
  (try dsimp only at hSw)
  (try simp only [List.getElem_toArray, List.getElem_cons_zero, List.getElem_cons_succ])
  go_simp
  (try with_reducible rfl)
 try simp only [Act.put, List.getElem_toArray, List.getElem_cons_zero, List.getElem_cons_succ, List.setIfInBounds_toArray, List.set_cons_zero, List.set_cons_succ]
 refine wpAnyH_take (i := 10) (oi := _) (v := ?_) rfl (by kernel_rfl) (by kernel_rfl) (by kernel_rfl) (fun _ _ _ h => h) (Or.inl ⟨by rfl, ?_⟩) (by assumption) ?_
 rotate_left
 ·
  intro w hSw
  (try dsimp only at hSw)
  (try simp only [List.getElem_toArray, List.getElem_cons_zero, List.getElem_cons_succ])
  go_simp
  (try with_reducible rfl)
 try simp only [Act.put, List.getElem_toArray, List.getElem_cons_zero, List.getElem_cons_succ, List.setIfInBounds_toArray, List.set_cons_zero, List.set_cons_succ]
 refine wpAnyH_done (by kernel_rfl) ?_ _; replace H := let_hid H; obtain ⟨t_23, w11, H⟩ := H
 cases t_23 with
 | false =>
  replace H := ite_f H; replace H := let_hid H; obtain ⟨t_29, h11, H⟩ := H
  cases t_29 with
  | false =>
   replace H := ite_f H; replace H := let_hid H; obtain ⟨t_35, o11, H⟩ := H; replace H := let_hid H; obtain ⟨t_36, g11, H⟩ := H
   cases t_36 with
   | false =>
    replace H := ite_f H; replace H := let_hid H; obtain ⟨t_40, f11, H⟩ := H
    cases t_40 with
    | false =>
     replace H := ite_f H; replace H := let_hid H; obtain ⟨t_46, i11, H⟩ := H
     cases t_46 with
     | false =>
      replace H := ite_f H; obtain rfl := ret_hid H; go_wp2_with fail; go_ret; exact ⟨rfl, n10.out⟩
     | true =>
      replace H := ite_t H; obtain rfl := ret_hid H; go_wp2_with fail; go_ret; exact ⟨rfl, n10.out⟩
    | true =>
     replace H := ite_t H; obtain rfl := ret_hid H; go_wp2_with fail; go_ret; exact ⟨rfl, n10.out⟩
   | true =>
    replace H := ite_t H; obtain rfl := ret_hid H; go_wp2_with fail; go_ret; exact ⟨rfl, n10.out⟩
  | true =>
   replace H := ite_t H; obtain rfl := ret_hid H; go_wp2_with fail; go_ret; exact ⟨rfl, n10.out⟩
 | true =>
  replace H := ite_t H; obtain rfl := ret_hid H; go_wp2_with fail; go_ret; exact ⟨rfl, n10.out⟩
end Go.Proofs.Ytgbcdmlcmnaimaa.GsL10Fault

namespace Go.Proofs.Ytgbcdmlcmnaimaa.GsFaultOf
open Go.RowKit
open Go.Proofs.Ytgbcdmlcmnaimaa.Rowed Go.Proofs.Ytgbcdmlcmnaimaa.Turn Go.Proofs.Ytgbcdmlcmnaimaa.Aid Go.Proofs.Ytgbcdmlcmnaimaa.GoP Go.Proofs.Ytgbcdmlcmnaimaa.GoM

def P (fuel : Nat) (rates : (List PRate.Rate)) (mails : (List PMail.Mail)) (x : PCover.Cover) : Option (Int × Bool) :=
 unCover x fun (x_id : Int) (x_day : Int) (x_zone : Int) (x_grams : Int) (x_paid : Int) (x_from_ : Int) (x_to_ : Int) (x_leave : Int) (x_arrive : Int) =>
 Option.bind (GsL8Good.P fuel rates) fun (t_4 : Bool) =>
 letK (!t_4) fun (t_5 : Bool) =>
 joinK (fun (t_10 : Bool) =>
 joinK (fun (t_15 : Bool) =>
 iteK t_15
 (some (0, false))
 (Option.bind (GsL10Fault.P rates mails (PCover.Cover.mk x_id x_day x_zone x_grams x_paid x_from_ x_to_ x_leave x_arrive)) fun (t_21 : Int) =>
 some (t_21, true))) fun jt_15 => iteK t_10 (appK jt_15 true) (Option.bind (GsL10One.P (PCover.Cover.mk x_id x_day x_zone x_grams x_paid x_from_ x_to_ x_leave x_arrive)) fun (t_13 : Bool) =>
 letK (!t_13) fun (t_14 : Bool) =>
 appK jt_15 t_14)) fun jt_10 => iteK t_5 (appK jt_10 true) (Option.bind (GsL9Good.P mails) fun (t_8 : Bool) =>
 letK (!t_8) fun (t_9 : Bool) =>
 appK jt_10 t_9)

set_option maxRecDepth 100000 in
set_option maxHeartbeats 2000000 in
theorem C (fuel : Nat) (rates : (List PRate.Rate)) (mails : (List PMail.Mail)) (x : PCover.Cover) (A0 : Option Addr) (c0 : Nat) (A1 : Option Addr) (c1 : Nat)  (w : World) (M0 : Hid (Cells w 5 A0 rates.length (PRate.flat rates))) (N0 : Hid (rates.length ≤ 9223372036854775807)) (M1 : Hid (Cells w 4 A1 mails.length (PMail.flat mails))) (N1 : Hid (mails.length ≤ 9223372036854775807))  {r0 : Int} {r1 : Bool} (H : Hid (P fuel rates mails x = some (r0, r1))) :
  Calls Try.prog 8 #[.slice A0 rates.length c0, .slice A1 mails.length c1, x.val] w (Gives (.tuple #[.int .i64 r0, .bool r1]) w) := by
 have HB := Lib.hid (Below.refl w.heap.size w); unfold P at H; obtain ⟨x_id, x_day, x_zone, x_grams, x_paid, x_from_, x_to_, x_leave, x_arrive⟩ := x; replace H := unCover_hid H; unfold PCover.Cover.val; have N0o := N0.out; have N1o := N1.out
 go_enter Try.func8, Try.ntmps8
 obtain ⟨d10, c10⟩ : ∃ x, w.alloc (.cells #[.int .i64 x_id, .int .i64 x_day, .int .i64 x_zone, .int .i64 x_grams, .int .i64 x_paid, .int .i64 x_from_, .int .i64 x_to_, .int .i64 x_leave, .int .i64 x_arrive] 27) = x := ⟨_, rfl⟩; have r10 : Below w.heap.size w d10 := (by rw [← c10]; exact (Below.refl _ _).alloc (Nat.le_refl _) _); have s10 := Lib.hid (Below.step HB.out r10); clear r10; have e10 : d10.cell? ⟨w.heap.size, 0, none⟩ = some (.int .i64 x_id) := (by rw [← c10]; exact box_new _ _ _ 0 _ rfl); have m10 : d10.cell? ⟨w.heap.size, 1, none⟩ = some (.int .i64 x_day) := (by rw [← c10]; exact box_new _ _ _ 1 _ rfl); have f10 : d10.cell? ⟨w.heap.size, 2, none⟩ = some (.int .i64 x_zone) := (by rw [← c10]; exact box_new _ _ _ 2 _ rfl); have i10 : d10.cell? ⟨w.heap.size, 3, none⟩ = some (.int .i64 x_grams) := (by rw [← c10]; exact box_new _ _ _ 3 _ rfl); have j10 : d10.cell? ⟨w.heap.size, 4, none⟩ = some (.int .i64 x_paid) := (by rw [← c10]; exact box_new _ _ _ 4 _ rfl); have h10 : d10.cell? ⟨w.heap.size, 5, none⟩ = some (.int .i64 x_from_) := (by rw [← c10]; exact box_new _ _ _ 5 _ rfl); have l10 : d10.cell? ⟨w.heap.size, 6, none⟩ = some (.int .i64 x_to_) := (by rw [← c10]; exact box_new _ _ _ 6 _ rfl); have k10 : d10.cell? ⟨w.heap.size, 7, none⟩ = some (.int .i64 x_leave) := (by rw [← c10]; exact box_new _ _ _ 7 _ rfl); have g10 : d10.cell? ⟨w.heap.size, 8, none⟩ = some (.int .i64 x_arrive) := (by rw [← c10]; exact box_new _ _ _ 8 _ rfl); replace H := bind_hid H; obtain ⟨t_4, qt_4, H⟩ := H; go_wp2_with fail; go_at_call 39; refine (GsL8Good.C fuel (rates) A0 c0 _   (Lib.hid (Cells.below M0.out s10.out)) N0 qt_4).mono ?_; rintro a11 wt_4 ⟨rfl, bt_4⟩; have o10 := Lib.hid (Below.step s10.out bt_4); replace e10 := cell_below bt_4 e10; replace m10 := cell_below bt_4 m10; replace f10 := cell_below bt_4 f10; replace i10 := cell_below bt_4 i10; replace j10 := cell_below bt_4 j10; replace h10 := cell_below bt_4 h10; replace l10 := cell_below bt_4 l10; replace k10 := cell_below bt_4 k10; replace g10 := cell_below bt_4 g10; clear bt_4
 cases t_4 with
 | false =>
  replace H := let_hid H; obtain ⟨t_5, ht_5, H⟩ := H; obtain rfl : t_5 = true := ht_5.symm; replace H := join_hid H; replace H := ite_t H; replace H := app_hid H; replace H := join_hid H; replace H := ite_t H; replace H := app_hid H; replace H := ite_t H; cases ret_hid H; go_wp2_with fail; go_ret2; exact ⟨rfl, o10.out⟩
 | true =>
  replace H := let_hid H; obtain ⟨t_5, ht_5, H⟩ := H; obtain rfl : t_5 = false := ht_5.symm; replace H := join_hid H; replace H := ite_f H; replace H := bind_hid H; obtain ⟨t_8, qt_8, H⟩ := H; go_wp2_with fail; go_at_call 40; refine (GsL9Good.C (mails) A1 c1 _   (Lib.hid (Cells.below M1.out o10.out)) N1 qt_8).mono ?_; rintro x10 wt_8 ⟨rfl, bt_8⟩; have q10 := Lib.hid (Below.step o10.out bt_8); replace e10 := cell_below bt_8 e10; replace m10 := cell_below bt_8 m10; replace f10 := cell_below bt_8 f10; replace i10 := cell_below bt_8 i10; replace j10 := cell_below bt_8 j10; replace h10 := cell_below bt_8 h10; replace l10 := cell_below bt_8 l10; replace k10 := cell_below bt_8 k10; replace g10 := cell_below bt_8 g10; clear bt_8
  cases t_8 with
  | false =>
   replace H := let_hid H; obtain ⟨t_9, ht_9, H⟩ := H; obtain rfl : t_9 = true := ht_9.symm; replace H := app_hid H; replace H := join_hid H; replace H := ite_t H; replace H := app_hid H; replace H := ite_t H; cases ret_hid H; go_wp2_with fail; go_ret2; exact ⟨rfl, q10.out⟩
  | true =>
   replace H := let_hid H; obtain ⟨t_9, ht_9, H⟩ := H; obtain rfl : t_9 = false := ht_9.symm; replace H := app_hid H; replace H := join_hid H; replace H := ite_f H; replace H := bind_hid H; obtain ⟨t_13, v10, H⟩ := H; go_wp2_with fail; go_at_call 41; refine (GsL10One.C ((PCover.Cover.mk x_id x_day x_zone x_grams x_paid x_from_ x_to_ x_leave x_arrive))  _    v10).mono ?_; rintro z10 y10 ⟨rfl, b10⟩; have n10 := Lib.hid (Below.step q10.out b10); replace e10 := cell_below b10 e10; replace m10 := cell_below b10 m10; replace f10 := cell_below b10 f10; replace i10 := cell_below b10 i10; replace j10 := cell_below b10 j10; replace h10 := cell_below b10 h10; replace l10 := cell_below b10 l10; replace k10 := cell_below b10 k10; replace g10 := cell_below b10 g10; clear b10
   cases t_13 with
   | false =>
    replace H := let_hid H; obtain ⟨t_14, p10, H⟩ := H; obtain rfl : t_14 = true := p10.symm; replace H := app_hid H; replace H := ite_t H; cases ret_hid H; go_wp2_with fail; go_ret2; exact ⟨rfl, n10.out⟩
   | true =>
    replace H := let_hid H; obtain ⟨t_14, p10, H⟩ := H; obtain rfl : t_14 = false := p10.symm; replace H := app_hid H; replace H := ite_f H; replace H := bind_hid H; obtain ⟨t_21, w10, H⟩ := H; go_wp2_with fail; go_at_call 42; refine (GsL10Fault.C (rates) (mails) ((PCover.Cover.mk x_id x_day x_zone x_grams x_paid x_from_ x_to_ x_leave x_arrive)) A0 c0 A1 c1 _   (Lib.hid (Cells.below M0.out n10.out)) N0 (Lib.hid (Cells.below M1.out n10.out)) N1 w10).mono ?_; rintro c11 b11 ⟨rfl, a10⟩; have t10 := Lib.hid (Below.step n10.out a10); replace e10 := cell_below a10 e10; replace m10 := cell_below a10 m10; replace f10 := cell_below a10 f10; replace i10 := cell_below a10 i10; replace j10 := cell_below a10 j10; replace h10 := cell_below a10 h10; replace l10 := cell_below a10 l10; replace k10 := cell_below a10 k10; replace g10 := cell_below a10 g10; clear a10; cases ret_hid H; go_wp2_with fail; go_ret2; exact ⟨rfl, t10.out⟩
end Go.Proofs.Ytgbcdmlcmnaimaa.GsFaultOf

namespace Go.Proofs.Ytgbcdmlcmnaimaa.GiCanBegin
open Go.RowKit
open Go.Proofs.Ytgbcdmlcmnaimaa.Rowed Go.Proofs.Ytgbcdmlcmnaimaa.Turn Go.Proofs.Ytgbcdmlcmnaimaa.Aid Go.Proofs.Ytgbcdmlcmnaimaa.GoP Go.Proofs.Ytgbcdmlcmnaimaa.GoM

def P (list : (List PMail.Mail)) (from_1 : Int) (minute : Int) : Option (Bool) :=
 Option.bind (GiIsTimetable.P list) fun (t_2 : Bool) =>
 joinK (fun (t_6 : Bool) =>
 joinK (fun (t_10 : Bool) =>
 some t_10) fun jt_10 => iteK t_6 (Option.bind (GiIsMinute.P minute) fun (t_9 : Bool) =>
 appK jt_10 t_9) (appK jt_10 false)) fun jt_6 => iteK t_2 (Option.bind (GiIsPostOffice.P from_1) fun (t_5 : Bool) =>
 appK jt_6 t_5) (appK jt_6 false)

set_option maxRecDepth 100000 in
set_option maxHeartbeats 2000000 in
theorem C (list : (List PMail.Mail)) (from_1 : Int) (minute : Int) (A0 : Option Addr) (c0 : Nat)  (w : World) (M0 : Hid (Cells w 4 A0 list.length (PMail.flat list))) (N0 : Hid (list.length ≤ 9223372036854775807))  {r : Bool} (H : Hid (P list from_1 minute = some r)) :
  Calls Try.prog 51 #[.slice A0 list.length c0, .int .i64 from_1, .int .i64 minute] w (Gives (.bool r) w) := by
 have HB := Lib.hid (Below.refl w.heap.size w); unfold P at H; have N0o := N0.out
 go_enter Try.func51, Try.ntmps51
 replace H := bind_hid H; obtain ⟨t_2, qt_2, H⟩ := H; go_wp2_with fail; go_at_call 47; refine (GiIsTimetable.C (list) A0 c0 _   (Lib.hid (Cells.below M0.out HB.out)) N0 qt_2).mono ?_; rintro d10 wt_2 ⟨rfl, bt_2⟩; have a10 := Lib.hid (Below.step HB.out bt_2); clear bt_2; replace H := join_hid H
 cases t_2 with
 | false =>
  replace H := ite_f H; replace H := app_hid H; replace H := join_hid H; replace H := ite_f H; replace H := app_hid H; obtain rfl := ret_hid H; go_wp2_with fail; go_ret; exact ⟨rfl, a10.out⟩
 | true =>
  replace H := ite_t H; replace H := bind_hid H; obtain ⟨t_5, qt_5, H⟩ := H; go_wp2_with fail; go_at_call 61; refine (GiIsPostOffice.C (from_1)  _    qt_5).mono ?_; rintro f10 wt_5 ⟨rfl, bt_5⟩; have b10 := Lib.hid (Below.step a10.out bt_5); clear bt_5; replace H := app_hid H; replace H := join_hid H
  cases t_5 with
  | false =>
   replace H := ite_f H; replace H := app_hid H; obtain rfl := ret_hid H; go_wp2_with fail; go_ret; exact ⟨rfl, b10.out⟩
  | true =>
   replace H := ite_t H; replace H := bind_hid H; obtain ⟨t_9, qt_9, H⟩ := H; go_wp2_with fail; go_at_call 62; refine (GiIsMinute.C (minute)  _    qt_9).mono ?_; rintro e10 wt_9 ⟨rfl, bt_9⟩; have c10 := Lib.hid (Below.step b10.out bt_9); clear bt_9; replace H := app_hid H; obtain rfl := ret_hid H; go_wp2_with fail; go_ret; exact ⟨rfl, c10.out⟩
end Go.Proofs.Ytgbcdmlcmnaimaa.GiCanBegin

namespace Go.Proofs.Ytgbcdmlcmnaimaa.GiEarliestAt
open Go.RowKit
open Go.Proofs.Ytgbcdmlcmnaimaa.Rowed Go.Proofs.Ytgbcdmlcmnaimaa.Turn Go.Proofs.Ytgbcdmlcmnaimaa.Aid Go.Proofs.Ytgbcdmlcmnaimaa.GoP Go.Proofs.Ytgbcdmlcmnaimaa.GoM

def P (list : (List PMail.Mail)) (from_1 : Int) (minute : Int) (to_3 : Int) : Option (Int × Bool) :=
 Option.bind (GiCanBegin.P list from_1 minute) fun (t_5 : Bool) =>
 letK (!t_5) fun (t_6 : Bool) =>
 joinK (fun (t_11 : Bool) =>
 iteK t_11
 (some (0, false))
 (Option.bind (GiEarliestMinutes.P list from_1 minute) fun (t_17 : PIntA10.IntA10) =>
 unIntA10 t_17 fun (t_17_x0 : Int) (t_17_x1 : Int) (t_17_x2 : Int) (t_17_x3 : Int) (t_17_x4 : Int) (t_17_x5 : Int) (t_17_x6 : Int) (t_17_x7 : Int) (t_17_x8 : Int) (t_17_x9 : Int) =>
 Option.bind (idx [t_17_x0, t_17_x1, t_17_x2, t_17_x3, t_17_x4, t_17_x5, t_17_x6, t_17_x7, t_17_x8, t_17_x9] to_3) fun (yt_19 : Int) =>
 letK (yt_19 == 10000) fun (t_22 : Bool) =>
 iteK t_22
 (some (0, false))
 (some (yt_19, true)))) fun jt_11 => iteK t_6 (appK jt_11 true) (Option.bind (GiIsPostOffice.P to_3) fun (t_9 : Bool) =>
 letK (!t_9) fun (t_10 : Bool) =>
 appK jt_11 t_10)

set_option maxRecDepth 100000 in
set_option maxHeartbeats 2000000 in
theorem C (list : (List PMail.Mail)) (from_1 : Int) (minute : Int) (to_3 : Int) (A0 : Option Addr) (c0 : Nat)  (w : World) (M0 : Hid (Cells w 4 A0 list.length (PMail.flat list))) (N0 : Hid (list.length ≤ 9223372036854775807))  {r0 : Int} {r1 : Bool} (H : Hid (P list from_1 minute to_3 = some (r0, r1))) :
  Calls Try.prog 94 #[.slice A0 list.length c0, .int .i64 from_1, .int .i64 minute, .int .i64 to_3] w (Gives (.tuple #[.int .i64 r0, .bool r1]) w) := by
 have HB := Lib.hid (Below.refl w.heap.size w); unfold P at H; have N0o := N0.out
 go_enter Try.func94, Try.ntmps94
 replace H := bind_hid H; obtain ⟨t_5, qt_5, H⟩ := H; go_wp2_with fail; go_at_call 51; refine (GiCanBegin.C (list) (from_1) (minute) A0 c0 _   (Lib.hid (Cells.below M0.out HB.out)) N0 qt_5).mono ?_; rintro b11 wt_5 ⟨rfl, bt_5⟩; have c10 := Lib.hid (Below.step HB.out bt_5); clear bt_5
 cases t_5 with
 | false =>
  replace H := let_hid H; obtain ⟨t_6, ht_6, H⟩ := H; obtain rfl : t_6 = true := ht_6.symm; replace H := join_hid H; replace H := ite_t H; replace H := app_hid H; replace H := ite_t H; cases ret_hid H; go_wp2_with fail; go_ret2; exact ⟨rfl, c10.out⟩
 | true =>
  replace H := let_hid H; obtain ⟨t_6, ht_6, H⟩ := H; obtain rfl : t_6 = false := ht_6.symm; replace H := join_hid H; replace H := ite_f H; replace H := bind_hid H; obtain ⟨t_9, qt_9, H⟩ := H; go_wp2_with fail; go_at_call 61; refine (GiIsPostOffice.C (to_3)  _    qt_9).mono ?_; rintro y10 wt_9 ⟨rfl, bt_9⟩; have a10 := Lib.hid (Below.step c10.out bt_9); clear bt_9
  cases t_9 with
  | false =>
   replace H := let_hid H; obtain ⟨t_10, b10, H⟩ := H; obtain rfl : t_10 = true := b10.symm; replace H := app_hid H; replace H := ite_t H; cases ret_hid H; go_wp2_with fail; go_ret2; exact ⟨rfl, a10.out⟩
  | true =>
   replace H := let_hid H; obtain ⟨t_10, b10, H⟩ := H; obtain rfl : t_10 = false := b10.symm; replace H := app_hid H; replace H := ite_f H; replace H := bind_hid H; obtain ⟨t_17, s10, H⟩ := H; obtain ⟨v10, r10, l10, o10, h10, m10, t10, i10, p10, j10⟩ := t_17; replace H := unIntA10_hid H; go_wp2_with fail; go_at_call 93; refine (GiEarliestMinutes.C (list) (from_1) (minute) A0 c0 _   (Lib.hid (Cells.below M0.out a10.out)) N0 s10).mono ?_; rintro w10 z10 ⟨rfl, g10⟩; unfold PIntA10.IntA10.val; have f10 := Lib.hid (Below.step a10.out g10); clear g10; replace H := idx_hid H; obtain ⟨d10, q10, k10, n10, e10, H⟩ := H; subst k10
   have x10 : ∀ w, (Instr.index 78 (.agg #[.int .i64 v10, .int .i64 r10, .int .i64 l10, .int .i64 o10, .int .i64 h10, .int .i64 m10, .int .i64 t10, .int .i64 i10, .int .i64 p10, .int .i64 j10]) (.int .i64 (d10 : Int))).run Try.prog w = .ok (.int .i64 q10) w := by
    intro w; have hl := n10; have hg := e10.out; clear e10 H
    rcases d10 with _ | _ | _ | _ | _ | _ | _ | _ | _ | _ | _
    ·
     obtain rfl := Option.some.inj hg; rfl
    ·
     obtain rfl := Option.some.inj hg; rfl
    ·
     obtain rfl := Option.some.inj hg; rfl
    ·
     obtain rfl := Option.some.inj hg; rfl
    ·
     obtain rfl := Option.some.inj hg; rfl
    ·
     obtain rfl := Option.some.inj hg; rfl
    ·
     obtain rfl := Option.some.inj hg; rfl
    ·
     obtain rfl := Option.some.inj hg; rfl
    ·
     obtain rfl := Option.some.inj hg; rfl
    ·
     obtain rfl := Option.some.inj hg; rfl
    ·
     simp at hl; omega
   replace H := let_hid H; obtain ⟨t_22, a11, H⟩ := H
   cases t_22 with
   | false =>
    replace H := ite_f H; cases ret_hid H; go_wp2_with fail; go_ret2; exact ⟨rfl, f10.out⟩
   | true =>
    replace H := ite_t H; cases ret_hid H; go_wp2_with fail; go_ret2; exact ⟨rfl, f10.out⟩
end Go.Proofs.Ytgbcdmlcmnaimaa.GiEarliestAt

namespace Go.Proofs.Ytgbcdmlcmnaimaa.GiLatestMinutes
open Go.RowKit
open Go.Proofs.Ytgbcdmlcmnaimaa.Rowed Go.Proofs.Ytgbcdmlcmnaimaa.Turn Go.Proofs.Ytgbcdmlcmnaimaa.Aid Go.Proofs.Ytgbcdmlcmnaimaa.GoP Go.Proofs.Ytgbcdmlcmnaimaa.GoM

def l0 (list : (List PMail.Mail)) (s : (List Int) × Int) (nx0 bk0 : (List Int) × Int → Option (PIntA10.IntA10)) : Option (PIntA10.IntA10) :=
 unp2 s fun latest_7l0 i_8l0 =>
 letK (decide (0 ≤ i_8l0)) fun (t_13 : Bool) =>
 iteK t_13
 (Option.bind (idx list i_8l0) fun (yt_16 : PMail.Mail) =>
 unMail yt_16 fun (t_16_leave : Int) (t_16_from_ : Int) (t_16_to_ : Int) (t_16_arrive : Int) =>
 Option.bind (idx latest_7l0 t_16_to_) fun (yt_24 : Int) =>
 letK (decide (t_16_arrive ≤ yt_24)) fun (t_26 : Bool) =>
 iteK t_26
 (Option.bind (idx latest_7l0 t_16_from_) fun (yt_31 : Int) =>
 letK (max yt_31 t_16_leave) fun (t_35 : Int) =>
 Option.bind (idx latest_7l0 t_16_from_) fun (yt_36 : Int) =>
 letK (latest_7l0.set (t_16_from_).toNat t_35) fun (l37_37 : (List Int)) =>
 letK (IntKind.i64.wrap (i_8l0 - 1)) fun (t_39 : Int) =>
 appK nx0 (l37_37, t_39))
 (letK (IntKind.i64.wrap (i_8l0 - 1)) fun (t_39 : Int) =>
 appK nx0 (latest_7l0, t_39)))
 (appK bk0 (latest_7l0, i_8l0))

def e0  (s : (List Int) × Int) : Option (PIntA10.IntA10) :=
 unp2 s fun latest_7l0 i_8l0 =>
 some (PIntA10.IntA10.mk (GoA.nth latest_7l0 0) (GoA.nth latest_7l0 1) (GoA.nth latest_7l0 2) (GoA.nth latest_7l0 3) (GoA.nth latest_7l0 4) (GoA.nth latest_7l0 5) (GoA.nth latest_7l0 6) (GoA.nth latest_7l0 7) (GoA.nth latest_7l0 8) (GoA.nth latest_7l0 9))

def P (fuel : Nat) (list : (List PMail.Mail)) (to_1 : Int) (by_2 : Int) : Option (PIntA10.IntA10) :=
 Option.bind (GiFilledWith.P (-1)) fun (t_1 : PIntA10.IntA10) =>
 unIntA10 t_1 fun (t_1_x0 : Int) (t_1_x1 : Int) (t_1_x2 : Int) (t_1_x3 : Int) (t_1_x4 : Int) (t_1_x5 : Int) (t_1_x6 : Int) (t_1_x7 : Int) (t_1_x8 : Int) (t_1_x9 : Int) =>
 letK ([t_1_x0, t_1_x1, t_1_x2, t_1_x3, t_1_x4, t_1_x5, t_1_x6, t_1_x7, t_1_x8, t_1_x9]) fun (vlatest_2 : (List Int)) =>
 Option.bind (idx vlatest_2 to_1) fun (yt_6 : Int) =>
 letK (vlatest_2.set (to_1).toNat by_2) fun (l7_7 : (List Int)) =>
 letK (IntKind.i64.wrap ((list.length : Int) - 1)) fun (t_10 : Int) =>
 loopK (l0 list) fuel (l7_7, t_10) (e0 )

set_option maxRecDepth 100000 in
set_option maxHeartbeats 2000000 in
theorem C (fuel : Nat) (list : (List PMail.Mail)) (to_1 : Int) (by_2 : Int) (A0 : Option Addr) (c0 : Nat)  (w : World) (M0 : Hid (Cells w 4 A0 list.length (PMail.flat list))) (N0 : Hid (list.length ≤ 9223372036854775807))  {r : PIntA10.IntA10} (H : Hid (P fuel list to_1 by_2 = some r)) :
  Calls Try.prog 54 #[.slice A0 list.length c0, .int .i64 to_1, .int .i64 by_2] w (Gives ((PIntA10.IntA10.val r)) w) := by
 have HB := Lib.hid (Below.refl w.heap.size w); unfold P at H; have N0o := N0.out
 go_enter Try.func54, Try.ntmps54
 obtain ⟨l10, j10⟩ : ∃ x, w.alloc (.cells #[.int .i64 0, .int .i64 0, .int .i64 0, .int .i64 0, .int .i64 0, .int .i64 0, .int .i64 0, .int .i64 0, .int .i64 0, .int .i64 0] 78) = x := ⟨_, rfl⟩; have a14 : Below w.heap.size w l10 := (by rw [← j10]; exact (Below.refl _ _).alloc (Nat.le_refl _) _); have i16 := Lib.hid (Below.step HB.out a14); clear a14; have l11 : l10.cell? ⟨w.heap.size, 0, none⟩ = some (.int .i64 0) := (by rw [← j10]; exact box_new _ _ _ 0 _ rfl); have q12 : l10.cell? ⟨w.heap.size, 1, none⟩ = some (.int .i64 0) := (by rw [← j10]; exact box_new _ _ _ 1 _ rfl); have p12 : l10.cell? ⟨w.heap.size, 2, none⟩ = some (.int .i64 0) := (by rw [← j10]; exact box_new _ _ _ 2 _ rfl); have n12 : l10.cell? ⟨w.heap.size, 3, none⟩ = some (.int .i64 0) := (by rw [← j10]; exact box_new _ _ _ 3 _ rfl); have r12 : l10.cell? ⟨w.heap.size, 4, none⟩ = some (.int .i64 0) := (by rw [← j10]; exact box_new _ _ _ 4 _ rfl); have v11 : l10.cell? ⟨w.heap.size, 5, none⟩ = some (.int .i64 0) := (by rw [← j10]; exact box_new _ _ _ 5 _ rfl); have f12 : l10.cell? ⟨w.heap.size, 6, none⟩ = some (.int .i64 0) := (by rw [← j10]; exact box_new _ _ _ 6 _ rfl); have o12 : l10.cell? ⟨w.heap.size, 7, none⟩ = some (.int .i64 0) := (by rw [← j10]; exact box_new _ _ _ 7 _ rfl); have y11 : l10.cell? ⟨w.heap.size, 8, none⟩ = some (.int .i64 0) := (by rw [← j10]; exact box_new _ _ _ 8 _ rfl); have t12 : l10.cell? ⟨w.heap.size, 9, none⟩ = some (.int .i64 0) := (by rw [← j10]; exact box_new _ _ _ 9 _ rfl); have Ot_0 : Hid (l10.ownsRow w.heap.size 78 10 (.slice (some ⟨w.heap.size, 0, none⟩) 1 1) 1 [.int .i64 0, .int .i64 0, .int .i64 0, .int .i64 0, .int .i64 0, .int .i64 0, .int .i64 0, .int .i64 0, .int .i64 0, .int .i64 0]) := Lib.hid (by rw [← j10]; exact own_laid (n := 1) HB.out.size rfl rfl (by unfold maxLen; omega)); replace H := bind_hid H; obtain ⟨t_1, qt_1, H⟩ := H; obtain ⟨z12, c13, g13, j13, y12, a13, f13, e13, h13, l13⟩ := t_1; replace H := unIntA10_hid H; go_wp2_with fail; go_at_call 98; refine (GiFilledWith.C ((-1))  _    qt_1).mono ?_; rintro r18 wt_1 ⟨rfl, bt_1⟩; unfold PIntA10.IntA10.val; have j15 := Lib.hid (Below.step i16.out bt_1); replace l11 := cell_below bt_1 l11; replace q12 := cell_below bt_1 q12; replace p12 := cell_below bt_1 p12; replace n12 := cell_below bt_1 n12; replace r12 := cell_below bt_1 r12; replace v11 := cell_below bt_1 v11; replace f12 := cell_below bt_1 f12; replace o12 := cell_below bt_1 o12; replace y11 := cell_below bt_1 y11; replace t12 := cell_below bt_1 t12; replace Ot_0 := Lib.hid (own_below Ot_0.out bt_1); clear bt_1; replace H := let_hid H; obtain ⟨v12, w11, H⟩ := H; obtain ⟨s12, c14⟩ : ∃ x, wt_1.alloc (.cells #[.int .i64 z12, .int .i64 c13, .int .i64 g13, .int .i64 j13, .int .i64 y12, .int .i64 a13, .int .i64 f13, .int .i64 e13, .int .i64 h13, .int .i64 l13] 78) = x := ⟨_, rfl⟩; have i10 : Below wt_1.heap.size wt_1 s12 := (by rw [← c14]; exact (Below.refl _ _).alloc (Nat.le_refl _) _); have l14 := j15.out.size; have o11 : v12.length = 10 := (by rw [← w11]; rfl)
 have s11 : Hid (s12.ownsRow w.heap.size 78 1 (.slice (some ⟨wt_1.heap.size, 0, none⟩) 10 10) 10 (HelpInt.iv v12)) := by
  rw [← c14, ← w11]; have e_ : ([.int .i64 z12, .int .i64 c13, .int .i64 g13, .int .i64 j13, .int .i64 y12, .int .i64 a13, .int .i64 f13, .int .i64 e13, .int .i64 h13, .int .i64 l13] : List Value) = HelpInt.iv [z12, c13, g13, j13, y12, a13, f13, e13, h13, l13] := rfl; exact Lib.hid (own_laid (n := 10) l14 e_ rfl (by unfold maxLen; omega))
 clear l14; have n18 := Lib.hid w11; clear w11; replace o11 := Lib.hid o11; have k10 := Lib.hid (apart_box l11); have f15 := Lib.hid (Below.step j15.out i10); have k14 := cell_below i10 l11; have e15 := cell_below i10 q12; have t14 := cell_below i10 p12; have w14 := cell_below i10 n12; have o14 := cell_below i10 r12; have g15 := cell_below i10 v11; have h14 := cell_below i10 f12; have q14 := cell_below i10 o12; have e14 := cell_below i10 y11; have i14 := cell_below i10 t12; replace Ot_0 := Lib.hid (own_below Ot_0.out i10); clear i10; replace H := idx_hid H; obtain ⟨nt_6, yt_6, et_6, lt_6, gt_6, H⟩ := H; subst et_6; have n16 := o11.out; obtain ⟨r17, v19, zt_6, At_6, v13, p14⟩ := HelpInt.Ints.at_ (own_cells s11.out) (k := nt_6) (by omega); obtain rfl := Option.some.inj (gt_6.out.symm.trans v13); simp only [Option.some.injEq, Addr.mk.injEq] at At_6; obtain ⟨rfl, rfl, _⟩ := At_6; clear v13; simp only [Nat.zero_add] at p14; have t19 : (0 : Int) ≤ (nt_6 : Int) := (by omega); have k18 : (nt_6 : Int) < ((10 : Nat) : Int) := (by omega); have a18 : ((nt_6 : Int)).toNat = nt_6 := (by omega); clear n16; have g19 : nt_6 < 10 := (by have h_ := lt_6; have hn_ := o11.out; omega); have h18 : (nt_6 : Int) < (10 : Int) := (by omega); replace H := let_hid H; obtain ⟨l7_7, n11, H⟩ := H
 try simp only [Int.toNat_natCast] at n11
 obtain ⟨x14, d15⟩ : ∃ x, (s12).setCell ⟨wt_1.heap.size, nt_6, none⟩ (.int .i64 by_2) = x := ⟨_, rfl⟩; have c16 := s11.out.frozenAt (nt_6); have k13 := Lib.hid (own_stores [(nt_6, .int .i64 by_2)] s11.out); have k16 : Hid (l7_7.length = 10) := Lib.hid (by rw [← n11, List.length_set]; exact o11.out); have o16 : Hid (x14.ownsRow w.heap.size 78 1 (.slice (some ⟨wt_1.heap.size, 0, none⟩) 10 10) 10 (HelpInt.iv l7_7)) := Lib.hid (by have e_ : ([(nt_6, .int .i64 by_2)] : List (Nat × Value)).foldl (fun xs p => xs.set p.1 p.2) (HelpInt.iv v12) = (HelpInt.iv l7_7) := (by rw [← n11]; first | done | simp [HelpInt.iv, List.map_set]); rw [← d15, ← e_]; exact k13.out.1); have h10 : Hid (s12.grownBy x14 (Value.slice (some ⟨wt_1.heap.size, 0, none⟩) 10 10).ownBlock) := Lib.hid (by rw [← d15]; exact k13.out.2); have b17 := Lib.hid (f15.out.grown h10.out f15.out.size (fun q hq => (s11.out.lt q hq).1)); have s17 := Lib.hid n11; clear n11 k13; have r11 := cell_other k14 h10.out k10.out; have z11 := cell_other e15 h10.out k10.out; have d12 := cell_other t14 h10.out k10.out; have m12 := cell_other w14 h10.out k10.out; have g12 := cell_other o14 h10.out k10.out; have h12 := cell_other g15 h10.out k10.out; have c12 := cell_other h14 h10.out k10.out; have j12 := cell_other q14 h10.out k10.out; have i12 := cell_other e14 h10.out k10.out; have b12 := cell_other i14 h10.out k10.out; replace Ot_0 := Lib.hid (own_other Ot_0.out h10.out k10.out); clear s11 h10; replace H := let_hid H; obtain ⟨t_10, n17, H⟩ := H
 try have w15 : (list.length : Int) - 1 = t_10 := by rw [← n17]; exact (IntWalk.i64_in _ (by omega)).symm
 try have h19 : IntKind.i64.wrap t_10 = t_10 := by rw [← w15]; exact IntWalk.i64_in _ (by omega)
 go_wp2_with fail; clear l11 q12 p12 n12 r12 v11 f12 o12 y11 t12 c16 k14 e15 t14 w14 o14 g15 h14 q14 e14 i14 p14; go_wp2_with fail; go_loopg [8] (fuel) (fun m_ v8_ wr => ∃ (a10 : (List Int)) (b13 : Int), v8_ = .int .i64 b13 ∧ Hid (loopK (l0 list) m_ (a10, b13) (e0 ) = some r) ∧ Hid (Below w.heap.size w wr) ∧ wr.cell? ⟨w.heap.size, 0, none⟩ = some (.int .i64 0) ∧ wr.cell? ⟨w.heap.size, 1, none⟩ = some (.int .i64 0) ∧ wr.cell? ⟨w.heap.size, 2, none⟩ = some (.int .i64 0) ∧ wr.cell? ⟨w.heap.size, 3, none⟩ = some (.int .i64 0) ∧ wr.cell? ⟨w.heap.size, 4, none⟩ = some (.int .i64 0) ∧ wr.cell? ⟨w.heap.size, 5, none⟩ = some (.int .i64 0) ∧ wr.cell? ⟨w.heap.size, 6, none⟩ = some (.int .i64 0) ∧ wr.cell? ⟨w.heap.size, 7, none⟩ = some (.int .i64 0) ∧ wr.cell? ⟨w.heap.size, 8, none⟩ = some (.int .i64 0) ∧ wr.cell? ⟨w.heap.size, 9, none⟩ = some (.int .i64 0) ∧ Hid (wr.ownsRow w.heap.size 78 10 (.slice (some ⟨w.heap.size, 0, none⟩) 1 1) 1 [.int .i64 0, .int .i64 0, .int .i64 0, .int .i64 0, .int .i64 0, .int .i64 0, .int .i64 0, .int .i64 0, .int .i64 0, .int .i64 0]) ∧ Hid (wr.ownsRow w.heap.size 78 1 (.slice (some ⟨wt_1.heap.size, 0, none⟩) 10 10) 10 (HelpInt.iv a10)) ∧ Hid (a10.length = 10) ∧ Hid (Apart (some ⟨wt_1.heap.size, 0, none⟩) (some ⟨w.heap.size, 0, none⟩)))
 case atStart => exact ⟨_, _, rfl, H, b17, r11, z11, d12, m12, g12, h12, c12, j12, i12, b12, Ot_0, o16, Lib.hid (k16.out), Lib.hid k10.out⟩
 case round =>
  obtain ⟨a10, b13, rfl, H, i11, r11, z11, d12, m12, g12, h12, c12, j12, i12, b12, Ot_0, b10, e10, g10⟩ := hrel; rename World => wr0
  cases gk with
  | zero => exact (loop_zero H).elim
  | succ m0 =>
   replace H := loop_succ H; unfold l0 at H; replace H := unp2_hid H; replace H := let_hid H; obtain ⟨t_13, a17, H⟩ := H
   cases t_13 with
   | false =>
    replace H := ite_f H; replace H := app_hid H; unfold e0 at H; replace H := unp2_hid H; have a19 : wr0.cell? ⟨wt_1.heap.size, 0, none⟩ = some (.int .i64 (GoA.nth a10 0)) := GoA.row_at b10.out e10.out 0 (by omega); have k19 : wr0.cell? ⟨wt_1.heap.size, 1, none⟩ = some (.int .i64 (GoA.nth a10 1)) := GoA.row_at b10.out e10.out 1 (by omega); have c20 : wr0.cell? ⟨wt_1.heap.size, 2, none⟩ = some (.int .i64 (GoA.nth a10 2)) := GoA.row_at b10.out e10.out 2 (by omega); have y17 : wr0.cell? ⟨wt_1.heap.size, 3, none⟩ = some (.int .i64 (GoA.nth a10 3)) := GoA.row_at b10.out e10.out 3 (by omega); have x18 : wr0.cell? ⟨wt_1.heap.size, 4, none⟩ = some (.int .i64 (GoA.nth a10 4)) := GoA.row_at b10.out e10.out 4 (by omega); have e19 : wr0.cell? ⟨wt_1.heap.size, 5, none⟩ = some (.int .i64 (GoA.nth a10 5)) := GoA.row_at b10.out e10.out 5 (by omega); have p19 : wr0.cell? ⟨wt_1.heap.size, 6, none⟩ = some (.int .i64 (GoA.nth a10 6)) := GoA.row_at b10.out e10.out 6 (by omega); have f20 : wr0.cell? ⟨wt_1.heap.size, 7, none⟩ = some (.int .i64 (GoA.nth a10 7)) := GoA.row_at b10.out e10.out 7 (by omega); have i19 : wr0.cell? ⟨wt_1.heap.size, 8, none⟩ = some (.int .i64 (GoA.nth a10 8)) := GoA.row_at b10.out e10.out 8 (by omega); have o19 : wr0.cell? ⟨wt_1.heap.size, 9, none⟩ = some (.int .i64 (GoA.nth a10 9)) := GoA.row_at b10.out e10.out 9 (by omega); obtain ⟨m10, z13⟩ : ∃ x, ((((((((((wr0).setCell ⟨w.heap.size, 0, none⟩ (.int .i64 (GoA.nth a10 0))).setCell ⟨w.heap.size, 1, none⟩ (.int .i64 (GoA.nth a10 1))).setCell ⟨w.heap.size, 2, none⟩ (.int .i64 (GoA.nth a10 2))).setCell ⟨w.heap.size, 3, none⟩ (.int .i64 (GoA.nth a10 3))).setCell ⟨w.heap.size, 4, none⟩ (.int .i64 (GoA.nth a10 4))).setCell ⟨w.heap.size, 5, none⟩ (.int .i64 (GoA.nth a10 5))).setCell ⟨w.heap.size, 6, none⟩ (.int .i64 (GoA.nth a10 6))).setCell ⟨w.heap.size, 7, none⟩ (.int .i64 (GoA.nth a10 7))).setCell ⟨w.heap.size, 8, none⟩ (.int .i64 (GoA.nth a10 8))).setCell ⟨w.heap.size, 9, none⟩ (.int .i64 (GoA.nth a10 9)) = x := ⟨_, rfl⟩; have n19 := Ot_0.out.frozenAt 0; have e18 := Ot_0.out.frozenAt 1; have z19 := Ot_0.out.frozenAt 2; have l19 := Ot_0.out.frozenAt 3; have t17 := Ot_0.out.frozenAt 4; have f18 := Ot_0.out.frozenAt 5; have e20 := Ot_0.out.frozenAt 6; have g20 := Ot_0.out.frozenAt 7; have s18 := Ot_0.out.frozenAt 8; have p18 := Ot_0.out.frozenAt 9; have i13 := Lib.hid (own_stores [(0, .int .i64 (GoA.nth a10 0)), (1, .int .i64 (GoA.nth a10 1)), (2, .int .i64 (GoA.nth a10 2)), (3, .int .i64 (GoA.nth a10 3)), (4, .int .i64 (GoA.nth a10 4)), (5, .int .i64 (GoA.nth a10 5)), (6, .int .i64 (GoA.nth a10 6)), (7, .int .i64 (GoA.nth a10 7)), (8, .int .i64 (GoA.nth a10 8)), (9, .int .i64 (GoA.nth a10 9))] Ot_0.out); have e11 : Hid (m10.ownsRow w.heap.size 78 10 (.slice (some ⟨w.heap.size, 0, none⟩) 1 1) 1 [.int .i64 (GoA.nth a10 0), .int .i64 (GoA.nth a10 1), .int .i64 (GoA.nth a10 2), .int .i64 (GoA.nth a10 3), .int .i64 (GoA.nth a10 4), .int .i64 (GoA.nth a10 5), .int .i64 (GoA.nth a10 6), .int .i64 (GoA.nth a10 7), .int .i64 (GoA.nth a10 8), .int .i64 (GoA.nth a10 9)]) := Lib.hid (by rw [← z13]; exact i13.out.1); have d13 : Hid (wr0.grownBy m10 (Value.slice (some ⟨w.heap.size, 0, none⟩) 1 1).ownBlock) := Lib.hid (by rw [← z13]; exact i13.out.2); have f16 := Lib.hid (i11.out.grown d13.out i11.out.size (fun q hq => (Ot_0.out.lt q hq).1)); clear i13; replace b10 := Lib.hid (own_other b10.out d13.out (Apart.symm g10.out)); clear Ot_0 d13; have x16 : m10.cell? ⟨w.heap.size, 0, none⟩ = some (.int .i64 (GoA.nth a10 0)) := e11.out.cells rfl 0 _ rfl; have g17 : m10.cell? ⟨w.heap.size, 1, none⟩ = some (.int .i64 (GoA.nth a10 1)) := e11.out.cells rfl 1 _ rfl; have k17 : m10.cell? ⟨w.heap.size, 2, none⟩ = some (.int .i64 (GoA.nth a10 2)) := e11.out.cells rfl 2 _ rfl; have h17 : m10.cell? ⟨w.heap.size, 3, none⟩ = some (.int .i64 (GoA.nth a10 3)) := e11.out.cells rfl 3 _ rfl; have h16 : m10.cell? ⟨w.heap.size, 4, none⟩ = some (.int .i64 (GoA.nth a10 4)) := e11.out.cells rfl 4 _ rfl
    have d17 : m10.cell? ⟨w.heap.size, 5, none⟩ = some (.int .i64 (GoA.nth a10 5)) := e11.out.cells rfl 5 _ rfl; have p16 : m10.cell? ⟨w.heap.size, 6, none⟩ = some (.int .i64 (GoA.nth a10 6)) := e11.out.cells rfl 6 _ rfl; have y16 : m10.cell? ⟨w.heap.size, 7, none⟩ = some (.int .i64 (GoA.nth a10 7)) := e11.out.cells rfl 7 _ rfl; have j17 : m10.cell? ⟨w.heap.size, 8, none⟩ = some (.int .i64 (GoA.nth a10 8)) := e11.out.cells rfl 8 _ rfl; have m17 : m10.cell? ⟨w.heap.size, 9, none⟩ = some (.int .i64 (GoA.nth a10 9)) := e11.out.cells rfl 9 _ rfl; cases ret_hid H; go_wp2_with fail
    (try simp only [Exit.inBlock, Exit.then])
    refine bodyPost_ret (v := .agg #[.int .i64 (GoA.nth a10 0), .int .i64 (GoA.nth a10 1), .int .i64 (GoA.nth a10 2), .int .i64 (GoA.nth a10 3), .int .i64 (GoA.nth a10 4), .int .i64 (GoA.nth a10 5), .int .i64 (GoA.nth a10 6), .int .i64 (GoA.nth a10 7), .int .i64 (GoA.nth a10 8), .int .i64 (GoA.nth a10 9)]) ?hr_ ?hd_ ?_
    case hd_ => rfl
    case hr_ => simp [results, Try.results54, x16, g17, k17, h17, h16, d17, p16, y16, j17, m17, go_sem]
    exact ⟨rfl, f16.out⟩
   | true =>
    replace H := ite_t H; replace H := idx_hid H; obtain ⟨q11, j16, c17, f17, a16, H⟩ := H; subst c17; have a20 : 0 ≤ q11 := (by have := of_decide_eq_true a17; omega); obtain ⟨m15, h15, x13, d14⟩ := j16; replace H := unMail_hid H; obtain ⟨b19, b18, v17, o17, a15, t11, x11, k12, e12⟩ := OMail.at_ M0.out f17; obtain rfl := Option.some.inj (a16.out.symm.trans a15); subst o17; have a12 := cell_lt t11; replace t11 := cell_below i11.out t11; replace x11 := cell_below i11.out x11; replace k12 := cell_below i11.out k12; replace e12 := cell_below i11.out e12; clear a15; have y19 : (0 : Int) ≤ (q11 : Int) := (by omega); have m18 : (q11 : Int) < ((list.length : Nat) : Int) := (by omega); have l20 : ((q11 : Int)).toNat = q11 := (by omega); obtain ⟨k11, p11⟩ : ∃ x, wr0.alloc (.cells #[.int .i64 m15, .int .i64 h15, .int .i64 x13, .int .i64 d14] 77) = x := ⟨_, rfl⟩; have d10 : Below wr0.heap.size wr0 k11 := (by rw [← p11]; exact (Below.refl _ _).alloc (Nat.le_refl _) _); have l12 := Lib.hid (apart_fresh b10.out); have w17 := Lib.hid (apart_box r11); have e17 := Lib.hid (Below.step i11.out d10); have r10 := cell_below d10 r11; have q10 := cell_below d10 z11; have o10 := cell_below d10 d12; have t10 := cell_below d10 m12; have x10 := cell_below d10 g12; have v10 := cell_below d10 h12; have p10 := cell_below d10 c12; have s10 := cell_below d10 j12; have w10 := cell_below d10 i12; have n10 := cell_below d10 b12; have h11 := cell_below d10 t11; have z10 := cell_below d10 x11; have g11 := cell_below d10 k12; have f11 := cell_below d10 e12; replace b10 := Lib.hid (own_below b10.out d10); replace Ot_0 := Lib.hid (own_below Ot_0.out d10); clear d10; have c11 : k11.cell? ⟨wr0.heap.size, 0, none⟩ = some (.int .i64 m15) := (by rw [← p11]; exact box_new _ _ _ 0 _ rfl); have d11 : k11.cell? ⟨wr0.heap.size, 1, none⟩ = some (.int .i64 h15) := (by rw [← p11]; exact box_new _ _ _ 1 _ rfl); have a11 : k11.cell? ⟨wr0.heap.size, 2, none⟩ = some (.int .i64 x13) := (by rw [← p11]; exact box_new _ _ _ 2 _ rfl); have b11 : k11.cell? ⟨wr0.heap.size, 3, none⟩ = some (.int .i64 d14) := (by rw [← p11]; exact box_new _ _ _ 3 _ rfl); go_wp2_with fail; clear r11 z11 d12 m12 g12 h12 c12 j12 i12 b12 t11 x11 k12 e12; have q13 := Lib.hid r10; replace r10 := cell_regrown r10; have k15 := Lib.hid q10; replace q10 := cell_regrown q10; have m13 := Lib.hid o10; replace o10 := cell_regrown o10; have w13 := Lib.hid t10; replace t10 := cell_regrown t10; have p15 := Lib.hid x10; replace x10 := cell_regrown x10; have y14 := Lib.hid v10; replace v10 := cell_regrown v10; have r14 := Lib.hid p10; replace p10 := cell_regrown p10; have l15 := Lib.hid s10; replace s10 := cell_regrown s10; have c15 := Lib.hid w10; replace w10 := cell_regrown w10; have o15 := Lib.hid n10; replace n10 := cell_regrown n10; have o13 := Lib.hid h11; replace h11 := cell_regrown h11; have n13 := Lib.hid z10; replace z10 := cell_regrown z10; have f14 := Lib.hid g11; replace g11 := cell_regrown g11; have y13 := Lib.hid f11; replace f11 := cell_regrown f11; have s14 := Lib.hid c11; replace c11 := cell_regrown c11; have b14 := Lib.hid d11; replace d11 := cell_regrown d11; have t13 := Lib.hid a11; replace a11 := cell_regrown a11; have j14 := Lib.hid b11; replace b11 := cell_regrown b11; replace H := idx_hid H; obtain ⟨j11, q18, b16, y15, d16, H⟩ := H; subst b16; have s15 := e10.out; obtain ⟨d20, w18, s19, n14, z14, y10⟩ := HelpInt.Ints.at_ (own_cells b10.out) (k := j11) (by omega); obtain rfl := Option.some.inj (d16.out.symm.trans z14); simp only [Option.some.injEq, Addr.mk.injEq] at n14; obtain ⟨rfl, rfl, _⟩ := n14; clear z14; simp only [Nat.zero_add] at y10; have g18 : (0 : Int) ≤ (j11 : Int) := (by omega); have l18 : (j11 : Int) < ((10 : Nat) : Int) := (by omega); have f19 : ((j11 : Int)).toNat = j11 := (by omega); clear s15; have s13 := Lib.hid y10; replace y10 := cell_regrown y10; have q17 : j11 < 10 := (by have h_ := y15; have hn_ := e10.out; omega); have c19 : (j11 : Int) < (10 : Int) := (by omega)
    replace H := let_hid H; obtain ⟨t_26, x19, H⟩ := H; refine wp_region_quiet_below (by kernel_rfl) (by kernel_rfl) ?_
    repeat (go_big_quiet_step (fail))
    refine wpQuiet_nil ?_; intro Y7 hY7; replace hY7 := below_class hY7; replace r10 := q13.out; clear q13; replace q10 := k15.out; clear k15; replace o10 := m13.out; clear m13; replace t10 := w13.out; clear w13; replace x10 := p15.out; clear p15; replace v10 := y14.out; clear y14; replace p10 := r14.out; clear r14; replace s10 := l15.out; clear l15; replace w10 := c15.out; clear c15; replace n10 := o15.out; clear o15; replace h11 := o13.out; clear o13; replace z10 := n13.out; clear n13; replace g11 := f14.out; clear f14; replace f11 := y13.out; clear y13; replace c11 := s14.out; clear s14; replace d11 := b14.out; clear b14; replace a11 := t13.out; clear t13; replace b11 := j14.out; clear j14; replace y10 := s13.out; clear s13; have HBY7 := Lib.hid (Below.step e17.out hY7); replace r10 := cell_below hY7 r10; replace q10 := cell_below hY7 q10; replace o10 := cell_below hY7 o10; replace t10 := cell_below hY7 t10; replace x10 := cell_below hY7 x10; replace v10 := cell_below hY7 v10; replace p10 := cell_below hY7 p10; replace s10 := cell_below hY7 s10; replace w10 := cell_below hY7 w10; replace n10 := cell_below hY7 n10; replace h11 := cell_below hY7 h11; replace z10 := cell_below hY7 z10; replace g11 := cell_below hY7 g11; replace f11 := cell_below hY7 f11; replace c11 := cell_below hY7 c11; replace d11 := cell_below hY7 d11; replace a11 := cell_below hY7 a11; replace b11 := cell_below hY7 b11; replace y10 := cell_below hY7 y10; replace b10 := Lib.hid (own_below b10.out hY7); replace Ot_0 := Lib.hid (own_below Ot_0.out hY7); clear hY7
    cases t_26 with
    | false =>
     replace H := ite_f H; replace H := let_hid H; obtain ⟨t_39, r15, H⟩ := H; replace H := app_hid H; go_wp2_with fail
     go_roundg m0
     case measure => omega
     case rel => exact ⟨_, _, rfl, H, HBY7, r10, q10, o10, t10, x10, v10, p10, s10, w10, n10, Ot_0, b10, Lib.hid (e10.out), Lib.hid g10.out⟩
    | true =>
     replace H := ite_t H; go_wp2_with fail; obtain ⟨Z8, hZ8⟩ : ∃ x, Y7.drew = x := ⟨_, rfl⟩; have bd8 : Below Y7.heap.size Y7 Z8 := (by rw [← hZ8]; exact (Below.refl _ _).drew); have HBZ8 := Lib.hid (Below.step HBY7.out bd8); replace r10 := cell_below bd8 r10; replace q10 := cell_below bd8 q10; replace o10 := cell_below bd8 o10; replace t10 := cell_below bd8 t10; replace x10 := cell_below bd8 x10; replace v10 := cell_below bd8 v10; replace p10 := cell_below bd8 p10; replace s10 := cell_below bd8 s10; replace w10 := cell_below bd8 w10; replace n10 := cell_below bd8 n10; replace h11 := cell_below bd8 h11; replace z10 := cell_below bd8 z10; replace g11 := cell_below bd8 g11; replace f11 := cell_below bd8 f11; replace c11 := cell_below bd8 c11; replace d11 := cell_below bd8 d11; replace a11 := cell_below bd8 a11; replace b11 := cell_below bd8 b11; replace y10 := cell_below bd8 y10; replace b10 := Lib.hid (own_below b10.out bd8); replace Ot_0 := Lib.hid (own_below Ot_0.out bd8); clear bd8; replace H := idx_hid H; obtain ⟨f10, d19, q15, m14, g14, H⟩ := H; subst q15; have t15 := e10.out; obtain ⟨y18, b20, h20, v14, r13, n15⟩ := HelpInt.Ints.at_ (own_cells b10.out) (k := f10) (by omega); obtain rfl := Option.some.inj (g14.out.symm.trans r13); simp only [Option.some.injEq, Addr.mk.injEq] at v14; obtain ⟨rfl, rfl, _⟩ := v14; clear r13; simp only [Nat.zero_add] at n15; have z17 : (0 : Int) ≤ (f10 : Int) := (by omega); have t18 : (f10 : Int) < ((10 : Nat) : Int) := (by omega); have j18 : ((f10 : Int)).toNat = f10 := (by omega); clear t15; have x17 : f10 < 10 := (by have h_ := m14; have hn_ := e10.out; omega); have i18 : (f10 : Int) < (10 : Int) := (by omega); replace H := let_hid H; obtain ⟨t_35, m19, H⟩ := H; replace H := idx_hid H; obtain ⟨g16, w19, l16, v16, i15, H⟩ := H; obtain rfl : f10 = g16 := (by omega); clear l16; obtain rfl := Option.some.inj (g14.out.symm.trans i15.out); clear i15 v16; have c18 : f10 < 10 := (by have h_ := m14; have hn_ := e10.out; omega); have i20 : (f10 : Int) < (10 : Int) := (by omega); refine wp_region_still_tail 10 (by kernel_rfl) (by kernel_rfl) ?_; simp only [List.take_succ_cons, List.take_zero, List.drop_succ_cons, List.drop_zero]; change wpStill _ _ Y7.drew _ _ _; rw [hZ8]
     repeat still_step
     refine wpStill_nil ?_; change wpList _ _ _ _ _ Y7.drew; rw [hZ8]; clear hZ8; replace H := let_hid H; obtain ⟨x12, m11, H⟩ := H
     try simp only [Int.toNat_natCast] at m11
     obtain ⟨p13, b15⟩ : ∃ x, (Z8).setCell ⟨wt_1.heap.size, f10, none⟩ (.int .i64 t_35) = x := ⟨_, rfl⟩; have z15 := b10.out.frozenAt (f10); have w12 := Lib.hid (own_stores [(f10, .int .i64 t_35)] b10.out); have w16 : Hid (x12.length = 10) := Lib.hid (by rw [← m11, List.length_set]; exact e10.out); have s16 : Hid (p13.ownsRow w.heap.size 78 1 (.slice (some ⟨wt_1.heap.size, 0, none⟩) 10 10) 10 (HelpInt.iv x12)) := Lib.hid (by have e_ : ([(f10, .int .i64 t_35)] : List (Nat × Value)).foldl (fun xs p => xs.set p.1 p.2) (HelpInt.iv a10) = (HelpInt.iv x12) := (by rw [← m11]; first | done | simp [HelpInt.iv, List.map_set]); rw [← b15, ← e_]; exact w12.out.1); have c10 : Hid (Z8.grownBy p13 (Value.slice (some ⟨wt_1.heap.size, 0, none⟩) 10 10).ownBlock) := Lib.hid (by rw [← b15]; exact w12.out.2); have m16 := Lib.hid (HBZ8.out.grown c10.out HBZ8.out.size (fun q hq => (b10.out.lt q hq).1)); have z18 := Lib.hid m11; clear m11 w12; have p17 := cell_other r10 c10.out g10.out; have q16 := cell_other q10 c10.out g10.out; have v15 := cell_other o10 c10.out g10.out; have z16 := cell_other t10 c10.out g10.out; have r16 := cell_other x10 c10.out g10.out; have l17 := cell_other v10 c10.out g10.out; have t16 := cell_other p10 c10.out g10.out; have e16 := cell_other s10 c10.out g10.out; have x15 := cell_other w10 c10.out g10.out; have i17 := cell_other n10 c10.out g10.out; have o18 := cell_other h11 c10.out (apart_old b10.out a12); have j20 := cell_other z10 c10.out (apart_old b10.out a12); have d18 := cell_other g11 c10.out (apart_old b10.out a12); have k20 := cell_other f11 c10.out (apart_old b10.out a12); have v18 := cell_other c11 c10.out (Apart.symm l12.out); have r19 := cell_other d11 c10.out (Apart.symm l12.out); have j19 := cell_other a11 c10.out (Apart.symm l12.out); have q19 := cell_other b11 c10.out (Apart.symm l12.out); replace Ot_0 := Lib.hid (own_other Ot_0.out c10.out g10.out); clear b10 c10; replace H := let_hid H; obtain ⟨t_39, r15, H⟩ := H; replace H := app_hid H; go_wp2_with fail; clear z15 r10 q10 o10 t10 x10 v10 p10 s10 w10 n10 h11 z10 g11 f11 c11 d11 a11 b11 y10 n15
     go_roundg m0
     case measure => omega
     case rel => exact ⟨_, _, rfl, H, m16, p17, q16, v15, z16, r16, l17, t16, e16, x15, i17, Ot_0, s16, Lib.hid (w16.out), Lib.hid g10.out⟩
end Go.Proofs.Ytgbcdmlcmnaimaa.GiLatestMinutes

namespace Go.Proofs.Ytgbcdmlcmnaimaa.GiCanTake
open Go.RowKit
open Go.Proofs.Ytgbcdmlcmnaimaa.Rowed Go.Proofs.Ytgbcdmlcmnaimaa.Turn Go.Proofs.Ytgbcdmlcmnaimaa.Aid Go.Proofs.Ytgbcdmlcmnaimaa.GoP Go.Proofs.Ytgbcdmlcmnaimaa.GoM

def P (x : PMail.Mail) (office : Int) (minute : Int) : Option (Bool) :=
 unMail x fun (x_leave : Int) (x_from_ : Int) (x_to_ : Int) (x_arrive : Int) =>
 letK (x_from_ == office) fun (t_5 : Bool) =>
 joinK (fun (t_11 : Bool) =>
 some t_11) fun jt_11 => iteK t_5 (letK (decide (minute ≤ x_leave)) fun (t_10 : Bool) =>
 appK jt_11 t_10) (appK jt_11 false)

set_option maxRecDepth 100000 in
set_option maxHeartbeats 2000000 in
theorem C (x : PMail.Mail) (office : Int) (minute : Int)   (w : World)   {r : Bool} (H : Hid (P x office minute = some r)) :
  Calls Try.prog 53 #[x.val, .int .i64 office, .int .i64 minute] w (Gives (.bool r) w) := by
 have HB := Lib.hid (Below.refl w.heap.size w); unfold P at H; obtain ⟨x_leave, x_from_, x_to_, x_arrive⟩ := x; replace H := unMail_hid H; unfold PMail.Mail.val
 go_enter Try.func53, Try.ntmps53
 obtain ⟨a10, b10⟩ : ∃ x, w.alloc (.cells #[.int .i64 x_leave, .int .i64 x_from_, .int .i64 x_to_, .int .i64 x_arrive] 77) = x := ⟨_, rfl⟩; have c10 : Below w.heap.size w a10 := (by rw [← b10]; exact (Below.refl _ _).alloc (Nat.le_refl _) _); have d10 := Lib.hid (Below.step HB.out c10); clear c10; have f10 : a10.cell? ⟨w.heap.size, 0, none⟩ = some (.int .i64 x_leave) := (by rw [← b10]; exact box_new _ _ _ 0 _ rfl); have i10 : a10.cell? ⟨w.heap.size, 1, none⟩ = some (.int .i64 x_from_) := (by rw [← b10]; exact box_new _ _ _ 1 _ rfl); have h10 : a10.cell? ⟨w.heap.size, 2, none⟩ = some (.int .i64 x_to_) := (by rw [← b10]; exact box_new _ _ _ 2 _ rfl); have g10 : a10.cell? ⟨w.heap.size, 3, none⟩ = some (.int .i64 x_arrive) := (by rw [← b10]; exact box_new _ _ _ 3 _ rfl); replace H := let_hid H; obtain ⟨t_5, ht_5, H⟩ := H; replace H := join_hid H
 cases t_5 with
 | false =>
  replace H := ite_f H; replace H := app_hid H; obtain rfl := ret_hid H; go_wp2_with fail; go_ret; exact ⟨rfl, d10.out⟩
 | true =>
  replace H := ite_t H; replace H := let_hid H; obtain ⟨t_10, e10, H⟩ := H; replace H := app_hid H; obtain rfl := ret_hid H; go_wp2_with fail; go_ret; exact ⟨rfl, d10.out⟩
end Go.Proofs.Ytgbcdmlcmnaimaa.GiCanTake

namespace Go.Proofs.Ytgbcdmlcmnaimaa.GiFirstRoute
open Go.RowKit
open Go.Proofs.Ytgbcdmlcmnaimaa.Rowed Go.Proofs.Ytgbcdmlcmnaimaa.Turn Go.Proofs.Ytgbcdmlcmnaimaa.Aid Go.Proofs.Ytgbcdmlcmnaimaa.GoP Go.Proofs.Ytgbcdmlcmnaimaa.GoM

def l1 (list : (List PMail.Mail)) (vlatest_0 : (List Int)) (nx0 : (Int × Int × (List Int)) → Option ((List Int))) (k1 : Nat) (s : Int × Int × (List Int)) (nx1 bk1 : Int × Int × (List Int) → Option ((List Int))) : Option ((List Int)) :=
 unp3 s fun office_1l1 minute_2l1 route_9l1 =>
 Option.bind (idx list (k1 : Int)) fun (yt_9 : PMail.Mail) =>
 unMail yt_9 fun (t_9_leave : Int) (t_9_from_ : Int) (t_9_to_ : Int) (t_9_arrive : Int) =>
 Option.bind (GiCanTake.P (PMail.Mail.mk t_9_leave t_9_from_ t_9_to_ t_9_arrive) office_1l1 minute_2l1) fun (t_17 : Bool) =>
 joinK (fun (t_26 : Bool) =>
 iteK t_26
 (guardK (route_9l1.length ≤ 1099511627776) <|
 letK (route_9l1 ++ [(k1 : Int)]) fun (t_30 : (List Int)) =>
 appK nx0 (t_9_to_, t_9_arrive, t_30))
 (appK nx1 (office_1l1, minute_2l1, route_9l1))) fun jt_26 => iteK t_17 (Option.bind (idx vlatest_0 t_9_to_) fun (yt_23 : Int) =>
 letK (decide (t_9_arrive ≤ yt_23)) fun (t_25 : Bool) =>
 appK jt_26 t_25) (appK jt_26 false)

def e1  (s : Int × Int × (List Int)) : Option ((List Int)) :=
 unp3 s fun office_1l1 minute_2l1 route_9l1 =>
 some route_9l1

def l0 (list : (List PMail.Mail)) (vlatest_0 : (List Int)) (s : Int × Int × (List Int)) (nx0 bk0 : Int × Int × (List Int) → Option ((List Int))) : Option ((List Int)) :=
 unp3 s fun office_1l0 minute_2l0 route_9l0 =>
 cntK (l1 list vlatest_0 nx0) (list.length) 0 (office_1l0, minute_2l0, route_9l0) (e1 )

def e0  (s : Int × Int × (List Int)) : Option ((List Int)) :=
 unp3 s fun office_1l0 minute_2l0 route_9l0 =>
 some []

def P (fuel : Nat) (list : (List PMail.Mail)) (office : Int) (minute : Int) (latest : PIntA10.IntA10) : Option ((List Int)) :=
 unIntA10 latest fun (latest_x0 : Int) (latest_x1 : Int) (latest_x2 : Int) (latest_x3 : Int) (latest_x4 : Int) (latest_x5 : Int) (latest_x6 : Int) (latest_x7 : Int) (latest_x8 : Int) (latest_x9 : Int) =>
 letK ([latest_x0, latest_x1, latest_x2, latest_x3, latest_x4, latest_x5, latest_x6, latest_x7, latest_x8, latest_x9]) fun (vlatest_0 : (List Int)) =>
 loopK (l0 list vlatest_0) fuel (office, minute, ([] : List Int)) (e0 )

set_option maxRecDepth 100000 in
set_option maxHeartbeats 2000000 in
theorem C (fuel : Nat) (list : (List PMail.Mail)) (office : Int) (minute : Int) (latest : PIntA10.IntA10) (A0 : Option Addr) (c0 : Nat)  (w : World) (M0 : Hid (Cells w 4 A0 list.length (PMail.flat list))) (N0 : Hid (list.length ≤ 9223372036854775807))  {r : (List Int)} (H : Hid (P fuel list office minute latest = some r)) :
  Calls Try.prog 95 #[.slice A0 list.length c0, .int .i64 office, .int .i64 minute, latest.val] w (fun e w' => ∃ A_r c_r, e = .returned (.slice A_r r.length c_r) ∧ w'.ownsRow w.heap.size 3 1 (.slice A_r r.length c_r) r.length (HelpInt.iv r) ∧ Below w.heap.size w w') := by
 have HB := Lib.hid (Below.refl w.heap.size w); unfold P at H; obtain ⟨k12, r12, j12, z12, l12, m12, t12, s12, q12, i12⟩ := latest; replace H := unIntA10_hid H; unfold PIntA10.IntA10.val; have N0o := N0.out; obtain ⟨i0_3, hi_3, g14, h14, m14⟩ := Aid.info_parts (P := Try.prog) (T := 3) (z := .int .i64 0) (s := 1) (b := 8) (by kernel_rfl)
 go_enter Try.func95, Try.ntmps95
 replace H := let_hid H; obtain ⟨a11, o11, H⟩ := H; obtain ⟨e11, o13⟩ : ∃ x, w.alloc (.cells #[.int .i64 k12, .int .i64 r12, .int .i64 j12, .int .i64 z12, .int .i64 l12, .int .i64 m12, .int .i64 t12, .int .i64 s12, .int .i64 q12, .int .i64 i12] 78) = x := ⟨_, rfl⟩; have k13 : Below w.heap.size w e11 := (by rw [← o13]; exact (Below.refl _ _).alloc (Nat.le_refl _) _); have i13 := HB.out.size; have s11 : a11.length = 10 := (by rw [← o11]; rfl)
 have a10 : Hid (e11.ownsRow w.heap.size 78 1 (.slice (some ⟨w.heap.size, 0, none⟩) 10 10) 10 (HelpInt.iv a11)) := by
  rw [← o13, ← o11]; have e_ : ([.int .i64 k12, .int .i64 r12, .int .i64 j12, .int .i64 z12, .int .i64 l12, .int .i64 m12, .int .i64 t12, .int .i64 s12, .int .i64 q12, .int .i64 i12] : List Value) = HelpInt.iv [k12, r12, j12, z12, l12, m12, t12, s12, q12, i12] := rfl; exact Lib.hid (own_laid (n := 10) i13 e_ rfl (by unfold maxLen; omega))
 clear i13; have t14 := Lib.hid o11; clear o11; replace s11 := Lib.hid s11; have p13 := Lib.hid (Below.step HB.out k13); clear k13; go_wp2_with fail; refine GoA.wp_scope_goto (l := 0) rfl ?_; intro Kg_ hKg_; obtain ⟨d13, w13⟩ : ∃ x, e11.alloc (.cells #[] 3) = x := ⟨_, rfl⟩; have x12 : Below e11.heap.size e11 d13 := (by rw [← w13]; exact (Below.refl _ _).alloc (Nat.le_refl _) _); have Ot_2 : Hid (d13.ownsRow w.heap.size 3 1 (.slice (some ⟨e11.heap.size, 0, none⟩) 0 0) 0 []) := Lib.hid (by rw [← w13]; exact own_empty p13.out.size); have e14 := Lib.hid (apart_fresh a10.out); have k14 := Lib.hid (Below.step p13.out x12); replace a10 := Lib.hid (own_below a10.out x12); clear x12; go_wp2_with fail
 try refine hKg_ _ _ ?_
 refine GoA.jumps_intro [false, true, true, false, false, false, false, false, true, true, true, true, false, true, true, true, true, true, true, true, true, true, true, true, true, true, true, true, true, true, true, true, true, true, true, true, true, true, true, true, true, true, true] fuel (fun m_ u_ wr => (fun m_ v1_ v2_ v9_ wr => ∃ (p12 : Int) (y12 : Int) (c11 : (List Int)) (a12 : Option Addr) (w12 : Nat), v1_ = .int .i64 p12 ∧ v2_ = .int .i64 y12 ∧ v9_ = .slice a12 c11.length w12 ∧ Hid (loopK (l0 list a11) m_ (p12, y12, c11) (e0 ) = some r) ∧ Hid (Below w.heap.size w wr) ∧ Hid (wr.ownsRow w.heap.size 3 1 (.slice a12 c11.length w12) c11.length (HelpInt.iv c11)) ∧ Hid (wr.ownsRow w.heap.size 78 1 (.slice (some ⟨w.heap.size, 0, none⟩) 10 10) 10 (HelpInt.iv a11)) ∧ Hid (Apart a12 (some ⟨w.heap.size, 0, none⟩))) m_ (u_ 1) (u_ 2) (u_ 9) wr) ?atStart ?round
 case atStart => exact ⟨_, _, _, _, _, rfl, rfl, rfl, H, k14, Ot_2, a10, Lib.hid e14.out⟩
 case round =>
  intro gk ug_ wg_ hrel Jg_ hJg_; obtain ⟨p12, y12, c11, a12, w12, eg1_, eg2_, eg9_, H, f14, c14, a10, n14⟩ := hrel; rename World => wr0; simp only [GoA.over, Nat.reduceAdd, eg1_, eg2_, eg9_]; clear eg1_ eg2_ eg9_
  cases gk with
  | zero => exact (loop_zero H).elim
  | succ m0 =>
   replace H := loop_succ H; unfold l0 at H; replace H := unp3_hid H; go_wp2_with fail; go_loopg [15, 1, 2, 9] (list.length) (fun m_ v15_ v1_ v2_ v9_ wr => ∃ (k1 : Nat) (h11 : Int) (f11 : Int) (d11 : (List Int)) (l11 : Option Addr) (r11 : Nat), k1 + m_ = list.length ∧ v15_ = .int .i64 (k1 : Int) ∧ v1_ = .int .i64 h11 ∧ v2_ = .int .i64 f11 ∧ v9_ = .slice l11 d11.length r11 ∧ Hid (cntK (l1 list a11 (fun s' => loopK (l0 list a11) m0 s' (e0 ))) m_ k1 (h11, f11, d11) (e1 ) = some r) ∧ Hid (Below w.heap.size w wr) ∧ Hid (wr.ownsRow w.heap.size 3 1 (.slice l11 d11.length r11) d11.length (HelpInt.iv d11)) ∧ Hid (wr.ownsRow w.heap.size 78 1 (.slice (some ⟨w.heap.size, 0, none⟩) 10 10) 10 (HelpInt.iv a11)) ∧ Hid (Apart l11 (some ⟨w.heap.size, 0, none⟩)))
   case atStart => exact ⟨0, _, _, _, _, _, by omega, rfl, rfl, rfl, rfl, H, f14, c14, a10, Lib.hid n14.out⟩
   case round =>
    obtain ⟨k1, h11, f11, d11, l11, r11, hkm1, rfl, rfl, rfl, rfl, H, b11, b10, a10, k11⟩ := hrel; rename World => wr1
    cases gk with
    | zero =>
     obtain rfl : k1 = list.length := (by omega); have hc1 : decide (((list.length : Nat) : Int) < ((list.length : Nat) : Int)) = false := (by simp); replace H := cnt_zero H; unfold e1 at H; replace H := unp3_hid H; obtain rfl := ret_hid H; go_wp2_with fail
     try simp only [Exit.noGoto, Exit.jump]
     go_wp2_with fail; go_ret; exact ⟨l11, r11, rfl, b10.out, b11.out⟩
    | succ m1 =>
     have hlt1 : k1 < list.length := (by omega); have hc1 : decide ((k1 : Int) < ((list.length : Nat) : Int)) = true := (by simp; omega); replace H := cnt_succ H; unfold l1 at H; replace H := unp3_hid H; replace H := idx_hid H; obtain ⟨nt_9, yt_9, et_9, lt_9, gt_9, H⟩ := H; obtain rfl : k1 = nt_9 := (by omega); clear et_9; obtain ⟨f12, y11, d12, m11⟩ := yt_9; replace H := unMail_hid H; obtain ⟨j15, g15, zt_9, At_9, e13, i11, w11, t11, n11⟩ := OMail.at_ M0.out lt_9; obtain rfl := Option.some.inj (gt_9.out.symm.trans e13); subst At_9; have b12 := cell_lt i11; replace i11 := cell_below b11.out i11; replace w11 := cell_below b11.out w11; replace t11 := cell_below b11.out t11; replace n11 := cell_below b11.out n11; clear e13; have r14 : (0 : Int) ≤ (k1 : Int) := (by omega); have d15 : (k1 : Int) < ((list.length : Nat) : Int) := (by omega); have f15 : ((k1 : Int)).toNat = k1 := (by omega); obtain ⟨z10, g11⟩ : ∃ x, wr1.alloc (.cells #[.int .i64 f12, .int .i64 y11, .int .i64 d12, .int .i64 m11] 77) = x := ⟨_, rfl⟩; have v10 : Below wr1.heap.size wr1 z10 := (by rw [← g11]; exact (Below.refl _ _).alloc (Nat.le_refl _) _); have w14 := Lib.hid (apart_fresh a10.out); have j11 := Lib.hid (apart_fresh b10.out); have s13 := Lib.hid (Below.step b11.out v10); have f10 := cell_below v10 i11; have i10 := cell_below v10 w11; have h10 := cell_below v10 t11; have j10 := cell_below v10 n11; replace a10 := Lib.hid (own_below a10.out v10); replace b10 := Lib.hid (own_below b10.out v10); clear v10; have e10 : z10.cell? ⟨wr1.heap.size, 0, none⟩ = some (.int .i64 f12) := (by rw [← g11]; exact box_new _ _ _ 0 _ rfl); have g10 : z10.cell? ⟨wr1.heap.size, 1, none⟩ = some (.int .i64 y11) := (by rw [← g11]; exact box_new _ _ _ 1 _ rfl); have k10 : z10.cell? ⟨wr1.heap.size, 2, none⟩ = some (.int .i64 d12) := (by rw [← g11]; exact box_new _ _ _ 2 _ rfl); have l10 : z10.cell? ⟨wr1.heap.size, 3, none⟩ = some (.int .i64 m11) := (by rw [← g11]; exact box_new _ _ _ 3 _ rfl); go_wp2_with fail; clear i11 w11 t11 n11; have z11 := Lib.hid f10; replace f10 := cell_regrown f10; have v11 := Lib.hid i10; replace i10 := cell_regrown i10; have x11 := Lib.hid h10; replace h10 := cell_regrown h10; have e12 := Lib.hid j10; replace j10 := cell_regrown j10; have h12 := Lib.hid e10; replace e10 := cell_regrown e10; have c12 := Lib.hid g10; replace g10 := cell_regrown g10; have p11 := Lib.hid k10; replace k10 := cell_regrown k10; have q11 := Lib.hid l10; replace l10 := cell_regrown l10; replace H := bind_hid H; obtain ⟨t_17, q14, H⟩ := H; have g12 : ∀ d os, Calls Try.prog 53 #[.agg #[.int .i64 f12, .int .i64 y11, .int .i64 d12, .int .i64 m11], .int .i64 h11, .int .i64 f11] (Go.Sort.grow (redrawn z10 d) os) fun e w'' => e = .returned (.bool t_17) ∧ ∃ p : Regrown, w'' = Go.Sort.grow (redrawn z10 p.d) p.os := fun d os => Calls.regrown_of (GiCanTake.C ((PMail.Mail.mk f12 y11 d12 m11)) (h11) (f11)  _    q14); replace H := join_hid H
     cases t_17 with
     | false =>
      replace H := ite_f H; replace H := app_hid H; refine wp_region_quiet_below (by kernel_rfl) (by kernel_rfl) ?_
      repeat (go_big_quiet_step (first | (go_at_call 53; exact g12 _ _)))
      refine wpQuiet_nil ?_; intro Y5 hY5; replace hY5 := below_class hY5; clear g12; replace f10 := z11.out; clear z11; replace i10 := v11.out; clear v11; replace h10 := x11.out; clear x11; replace j10 := e12.out; clear e12; replace e10 := h12.out; clear h12; replace g10 := c12.out; clear c12; replace k10 := p11.out; clear p11; replace l10 := q11.out; clear q11; have HBY5 := Lib.hid (Below.step s13.out hY5); replace f10 := cell_below hY5 f10; replace i10 := cell_below hY5 i10; replace h10 := cell_below hY5 h10; replace j10 := cell_below hY5 j10; replace e10 := cell_below hY5 e10; replace g10 := cell_below hY5 g10; replace k10 := cell_below hY5 k10; replace l10 := cell_below hY5 l10; replace a10 := Lib.hid (own_below a10.out hY5); replace b10 := Lib.hid (own_below b10.out hY5); clear hY5; replace H := ite_f H; replace H := app_hid H; go_wp2_with fail
      go_roundg m1
      case measure => omega
      case rel => exact ⟨k1 + 1, _, _, _, _, _, by omega, by go_num, rfl, rfl, rfl, H, HBY5, b10, a10, Lib.hid k11.out⟩
     | true =>
      replace H := ite_t H; replace H := idx_hid H; obtain ⟨y10, c15, j14, l14, a14, H⟩ := H; subst j14; have o14 := s11.out; obtain ⟨a15, v14, z14, a13, m13, m10⟩ := HelpInt.Ints.at_ (own_cells a10.out) (k := y10) (by omega); obtain rfl := Option.some.inj (a14.out.symm.trans m13); simp only [Option.some.injEq, Addr.mk.injEq] at a13; obtain ⟨rfl, rfl, _⟩ := a13; clear m13; simp only [Nat.zero_add] at m10; have e15 : (0 : Int) ≤ (y10 : Int) := (by omega); have k15 : (y10 : Int) < ((10 : Nat) : Int) := (by omega); have b15 : ((y10 : Int)).toNat = y10 := (by omega); clear o14; have v13 := Lib.hid m10; replace m10 := cell_regrown m10; have x14 : y10 < 10 := (by have h_ := l14; have hn_ := s11.out; omega); have h15 : (y10 : Int) < (10 : Int) := (by omega); replace H := let_hid H; obtain ⟨t_25, y14, H⟩ := H; replace H := app_hid H; refine wp_region_quiet_below (by kernel_rfl) (by kernel_rfl) ?_
      repeat (go_big_quiet_step (first | (go_at_call 53; exact g12 _ _)))
      refine wpQuiet_nil ?_; intro Y5 hY5; replace hY5 := below_class hY5; clear g12; replace f10 := z11.out; clear z11; replace i10 := v11.out; clear v11; replace h10 := x11.out; clear x11; replace j10 := e12.out; clear e12; replace e10 := h12.out; clear h12; replace g10 := c12.out; clear c12; replace k10 := p11.out; clear p11; replace l10 := q11.out; clear q11; replace m10 := v13.out; clear v13; have HBY5 := Lib.hid (Below.step s13.out hY5); replace f10 := cell_below hY5 f10; replace i10 := cell_below hY5 i10; replace h10 := cell_below hY5 h10; replace j10 := cell_below hY5 j10; replace e10 := cell_below hY5 e10; replace g10 := cell_below hY5 g10; replace k10 := cell_below hY5 k10; replace l10 := cell_below hY5 l10; replace m10 := cell_below hY5 m10; replace a10 := Lib.hid (own_below a10.out hY5); replace b10 := Lib.hid (own_below b10.out hY5); clear hY5
      cases t_25 with
      | false =>
       replace H := ite_f H; replace H := app_hid H; go_wp2_with fail
       go_roundg m1
       case measure => omega
       case rel => exact ⟨k1 + 1, _, _, _, _, _, by omega, by go_num, rfl, rfl, rfl, H, HBY5, b10, a10, Lib.hid k11.out⟩
      | true =>
       replace H := ite_t H; obtain ⟨d14, n13⟩ : ∃ x, Y5.alloc (.cells #[.int .i64 (k1 : Int)] 3) = x := ⟨_, rfl⟩; have c10 : Below Y5.heap.size Y5 d14 := (by rw [← n13]; exact (Below.refl _ _).alloc (Nat.le_refl _) _); have c13 := Lib.hid (Below.step HBY5.out c10); have p10 := cell_below c10 f10; have r10 := cell_below c10 i10; have w10 := cell_below c10 h10; have t10 := cell_below c10 j10; have n10 := cell_below c10 e10; have x10 := cell_below c10 g10; have q10 := cell_below c10 k10; have s10 := cell_below c10 l10; have o10 := cell_below c10 m10; replace a10 := Lib.hid (own_below a10.out c10); replace b10 := Lib.hid (own_below b10.out c10); clear c10; replace H := guard_hid H; obtain ⟨s14, H⟩ := H; replace H := let_hid H; obtain ⟨t_30, t13, H⟩ := H; have i14 := Lib.hid t13; clear t13; have v12 := c13.out.size; go_wp2_with (at_builtin; refine wpList_append_own_at _ rfl _ _ 33 rfl w.heap.size 3 i0_3 (.int .i64 0) 1 8 Try.underlying33 hi_3 g14 h14 m14 rfl (by decide) _ _ _ rfl b10.out ⟨Y5.heap.size, 0, none⟩ 1 1 [.int .i64 (k1 : Int)] rfl rfl (news_new n13) (one_cells rfl) (by unfold maxLen; omega) (by omega) v12 ?_; intro vt_30 wt_30 ot_30 gt_30 zt_30 yt_30; clear zt_30; obtain ⟨r13, i15, rfl, b13⟩ := own_push i14.out (HelpInt.iv_snoc _ _) rfl ot_30; have o12 := Lib.hid b13; have n12 := Lib.hid yt_30; have d10 := Lib.hid gt_30; clear ot_30 gt_30 b13 yt_30; refine stop_in ?_); refine stop_out ?_; have b14 := Lib.hid (c13.out.grown d10.out v12 (fun q hq => (b10.out.lt q hq).1)); clear v12; have p14 : Hid (Apart (some ⟨r13, 0, none⟩) _) := Lib.hid (apart_app k11.out (fun a_ ha_ => (own_lt a10.out a_ ha_).2) n12.out); have l15 : Hid (Apart (some ⟨r13, 0, none⟩) _) := Lib.hid (apart_app (Apart.symm j11.out) (fun a_ ha_ => by cases ha_; exact cell_lt n10) n12.out); replace p10 := cell_other p10 d10.out (apart_old b10.out b12); replace r10 := cell_other r10 d10.out (apart_old b10.out b12); replace w10 := cell_other w10 d10.out (apart_old b10.out b12); replace t10 := cell_other t10 d10.out (apart_old b10.out b12); replace n10 := cell_other n10 d10.out (Apart.symm j11.out); replace x10 := cell_other x10 d10.out (Apart.symm j11.out); replace q10 := cell_other q10 d10.out (Apart.symm j11.out); replace s10 := cell_other s10 d10.out (Apart.symm j11.out); replace o10 := cell_other o10 d10.out k11.out; replace a10 := Lib.hid (own_other a10.out d10.out k11.out); clear f10 i10 h10 j10 e10 g10 k10 l10 m10; clear b10 n12 d10; go_wp2_with fail; have y13 := Lib.hid p10; replace p10 := cell_regrown p10; have x13 := Lib.hid r10; replace r10 := cell_regrown r10; have g13 := Lib.hid w10; replace w10 := cell_regrown w10; have f13 := Lib.hid t10; replace t10 := cell_regrown t10; have z13 := Lib.hid n10; replace n10 := cell_regrown n10; have h13 := Lib.hid x10; replace x10 := cell_regrown x10; have q13 := Lib.hid q10; replace q10 := cell_regrown q10; have j13 := Lib.hid s10; replace s10 := cell_regrown s10; have l13 := Lib.hid o10; replace o10 := cell_regrown o10; refine wp_region_quiet_below (by kernel_rfl) (by kernel_rfl) ?_
       repeat (go_big_quiet_step (fail))
       refine wpQuiet_nil ?_; intro Y7 hY7; replace hY7 := below_class hY7; replace p10 := y13.out; clear y13; replace r10 := x13.out; clear x13; replace w10 := g13.out; clear g13; replace t10 := f13.out; clear f13; replace n10 := z13.out; clear z13; replace x10 := h13.out; clear h13; replace q10 := q13.out; clear q13; replace s10 := j13.out; clear j13; replace o10 := l13.out; clear l13; have HBY7 := Lib.hid (Below.step b14.out hY7); replace p10 := cell_below hY7 p10; replace r10 := cell_below hY7 r10; replace w10 := cell_below hY7 w10; replace t10 := cell_below hY7 t10; replace n10 := cell_below hY7 n10; replace x10 := cell_below hY7 x10; replace q10 := cell_below hY7 q10; replace s10 := cell_below hY7 s10; replace o10 := cell_below hY7 o10; replace a10 := Lib.hid (own_below a10.out hY7); replace o12 := Lib.hid (own_below o12.out hY7); clear hY7; replace H := app_hid H; go_wp2_with fail; refine wp_goto ?_; simp only [Exit.then, Exit.inBlock, Exit.jump, true_and]; refine GoA.handed_goto hJg_ m0 ?measure rfl ?rel
       case measure => omega
       case rel => exact ⟨_, _, _, _, _, rfl, rfl, rfl, H, HBY7, o12, a10, Lib.hid p14.out⟩
end Go.Proofs.Ytgbcdmlcmnaimaa.GiFirstRoute

namespace Go.Proofs.Ytgbcdmlcmnaimaa.GiBestRoute
open Go.RowKit
open Go.Proofs.Ytgbcdmlcmnaimaa.Rowed Go.Proofs.Ytgbcdmlcmnaimaa.Turn Go.Proofs.Ytgbcdmlcmnaimaa.Aid Go.Proofs.Ytgbcdmlcmnaimaa.GoP Go.Proofs.Ytgbcdmlcmnaimaa.GoM

def P (fuel : Nat) (list : (List PMail.Mail)) (from_1 : Int) (minute : Int) (to_3 : Int) : Option ((List Int) × Bool) :=
 bind2 (GiEarliestAt.P list from_1 minute to_3) fun (t_6a : Int) (t_6b : Bool) =>
 letK (!t_6b) fun (t_13 : Bool) =>
 iteK t_13
 (some (([] : List Int), false))
 (Option.bind (GiLatestMinutes.P fuel list to_3 t_6a) fun (t_23 : PIntA10.IntA10) =>
 unIntA10 t_23 fun (t_23_x0 : Int) (t_23_x1 : Int) (t_23_x2 : Int) (t_23_x3 : Int) (t_23_x4 : Int) (t_23_x5 : Int) (t_23_x6 : Int) (t_23_x7 : Int) (t_23_x8 : Int) (t_23_x9 : Int) =>
 Option.bind (GiFirstRoute.P fuel list from_1 minute (PIntA10.IntA10.mk t_23_x0 t_23_x1 t_23_x2 t_23_x3 t_23_x4 t_23_x5 t_23_x6 t_23_x7 t_23_x8 t_23_x9)) fun (t_24 : (List Int)) =>
 some (t_24, true))

set_option maxRecDepth 100000 in
set_option maxHeartbeats 2000000 in
theorem C (fuel : Nat) (list : (List PMail.Mail)) (from_1 : Int) (minute : Int) (to_3 : Int) (A0 : Option Addr) (c0 : Nat)  (w : World) (M0 : Hid (Cells w 4 A0 list.length (PMail.flat list))) (N0 : Hid (list.length ≤ 9223372036854775807))  {r0 : (List Int)} {r1 : Bool} (H : Hid (P fuel list from_1 minute to_3 = some (r0, r1))) :
  Calls Try.prog 49 #[.slice A0 list.length c0, .int .i64 from_1, .int .i64 minute, .int .i64 to_3] w (fun e w' => ∃ A_r0 c_r0, e = .returned (.tuple #[.slice A_r0 r0.length c_r0, .bool r1]) ∧ w'.ownsRow w.heap.size 3 1 (.slice A_r0 r0.length c_r0) r0.length (HelpInt.iv r0) ∧ Below w.heap.size w w') := by
 have HB := Lib.hid (Below.refl w.heap.size w); unfold P at H; have N0o := N0.out
 go_enter Try.func49, Try.ntmps49
 replace H := bind2_hid H; obtain ⟨t_6a, t_6b, qt_6, H⟩ := H; go_wp2_with fail; go_at_call 94; refine (GiEarliestAt.C (list) (from_1) (minute) (to_3) A0 c0 _   (Lib.hid (Cells.below M0.out HB.out)) N0 qt_6).mono ?_; rintro d11 wt_6 ⟨rfl, bt_6⟩; have a10 := Lib.hid (Below.step HB.out bt_6); clear bt_6
 cases t_6b with
 | false =>
  replace H := let_hid H; obtain ⟨t_13, b10, H⟩ := H; obtain rfl : t_13 = true := b10.symm; replace H := ite_t H; obtain ⟨i10, f10⟩ : ∃ x, wt_6.alloc (.cells #[] 3) = x := ⟨_, rfl⟩; have d10 : Below wt_6.heap.size wt_6 i10 := (by rw [← f10]; exact (Below.refl _ _).alloc (Nat.le_refl _) _); have o10 : Hid (i10.ownsRow w.heap.size 3 1 (.slice (some ⟨wt_6.heap.size, 0, none⟩) 0 0) 0 []) := Lib.hid (by rw [← f10]; exact own_empty a10.out.size); have b11 := Lib.hid (Below.step a10.out d10); clear d10; cases ret_hid H; go_wp2_with fail; go_ret2; exact ⟨(some ⟨wt_6.heap.size, 0, none⟩), 0, rfl, o10.out, b11.out⟩
 | true =>
  replace H := let_hid H; obtain ⟨t_13, b10, H⟩ := H; obtain rfl : t_13 = false := b10.symm; replace H := ite_f H; replace H := bind_hid H; obtain ⟨t_23, q10, H⟩ := H; obtain ⟨t10, v10, l10, m10, k10, a11, r10, s10, n10, w10⟩ := t_23; replace H := unIntA10_hid H; go_wp2_with fail; go_at_call 54; refine (GiLatestMinutes.C fuel (list) (to_3) (t_6a) A0 c0 _   (Lib.hid (Cells.below M0.out a10.out)) N0 q10).mono ?_; rintro g11 f11 ⟨rfl, g10⟩; unfold PIntA10.IntA10.val; have c10 := Lib.hid (Below.step a10.out g10); clear g10; replace H := bind_hid H; obtain ⟨t_24, p10, H⟩ := H; go_wp2_with fail; go_at_call 95; refine (GiFirstRoute.C fuel (list) (from_1) (minute) ((PIntA10.IntA10.mk t10 v10 l10 m10 k10 a11 r10 s10 n10 w10)) A0 c0 _   (Lib.hid (Cells.below M0.out c10.out)) N0 p10).mono ?_; rintro c11 e11 ⟨j10, z10, rfl, h10, e10⟩; have x10 := Lib.hid (own_lower h10 c10.out.size); clear h10; have y10 := Lib.hid (Below.step c10.out e10); clear e10; cases ret_hid H; go_wp2_with fail; go_ret2; exact ⟨j10, z10, rfl, x10.out, y10.out⟩
end Go.Proofs.Ytgbcdmlcmnaimaa.GiBestRoute

namespace Go.Proofs.Ytgbcdmlcmnaimaa.GiRouteOn
open Go.RowKit
open Go.Proofs.Ytgbcdmlcmnaimaa.Rowed Go.Proofs.Ytgbcdmlcmnaimaa.Turn Go.Proofs.Ytgbcdmlcmnaimaa.Aid Go.Proofs.Ytgbcdmlcmnaimaa.GoP Go.Proofs.Ytgbcdmlcmnaimaa.GoM

def P (fuel : Nat) (mails : (List PMail.Mail)) (x : PCover.Cover) : Option ((List Int) × Bool) :=
 unCover x fun (x_id : Int) (x_day : Int) (x_zone : Int) (x_grams : Int) (x_paid : Int) (x_from_ : Int) (x_to_ : Int) (x_leave : Int) (x_arrive : Int) =>
 Option.bind (GiIsTimetable.P mails) fun (t_4 : Bool) =>
 letK (!t_4) fun (t_5 : Bool) =>
 joinK (fun (t_10 : Bool) =>
 joinK (fun (t_18 : Bool) =>
 iteK t_18
 (some (([] : List Int), false))
 (bind2 (GiBestRoute.P fuel mails x_from_ x_leave x_to_) fun (t_29a : (List Int)) (t_29b : Bool) =>
 some (t_29a, t_29b))) fun jt_18 => iteK t_10 (appK jt_18 true) (Option.bind (GiEarliestEnd.P mails (PCover.Cover.mk x_id x_day x_zone x_grams x_paid x_from_ x_to_ x_leave x_arrive)) fun (t_14 : Int) =>
 letK (decide (x_arrive < t_14)) fun (t_17 : Bool) =>
 appK jt_18 t_17)) fun jt_10 => iteK t_5 (appK jt_10 true) (Option.bind (GiIsCover.P (PCover.Cover.mk x_id x_day x_zone x_grams x_paid x_from_ x_to_ x_leave x_arrive)) fun (t_8 : Bool) =>
 letK (!t_8) fun (t_9 : Bool) =>
 appK jt_10 t_9)

set_option maxRecDepth 100000 in
set_option maxHeartbeats 2000000 in
theorem C (fuel : Nat) (mails : (List PMail.Mail)) (x : PCover.Cover) (A0 : Option Addr) (c0 : Nat)  (w : World) (M0 : Hid (Cells w 4 A0 mails.length (PMail.flat mails))) (N0 : Hid (mails.length ≤ 9223372036854775807))  {r0 : (List Int)} {r1 : Bool} (H : Hid (P fuel mails x = some (r0, r1))) :
  Calls Try.prog 11 #[.slice A0 mails.length c0, x.val] w (fun e w' => ∃ A_r0 c_r0, e = .returned (.tuple #[.slice A_r0 r0.length c_r0, .bool r1]) ∧ w'.ownsRow w.heap.size 3 1 (.slice A_r0 r0.length c_r0) r0.length (HelpInt.iv r0) ∧ Below w.heap.size w w') := by
 have HB := Lib.hid (Below.refl w.heap.size w); unfold P at H; obtain ⟨x_id, x_day, x_zone, x_grams, x_paid, x_from_, x_to_, x_leave, x_arrive⟩ := x; replace H := unCover_hid H; unfold PCover.Cover.val; have N0o := N0.out
 go_enter Try.func11, Try.ntmps11
 obtain ⟨k10, m10⟩ : ∃ x, w.alloc (.cells #[.int .i64 x_id, .int .i64 x_day, .int .i64 x_zone, .int .i64 x_grams, .int .i64 x_paid, .int .i64 x_from_, .int .i64 x_to_, .int .i64 x_leave, .int .i64 x_arrive] 27) = x := ⟨_, rfl⟩; have d11 : Below w.heap.size w k10 := (by rw [← m10]; exact (Below.refl _ _).alloc (Nat.le_refl _) _); have a11 := Lib.hid (Below.step HB.out d11); clear d11; have b10 : k10.cell? ⟨w.heap.size, 0, none⟩ = some (.int .i64 x_id) := (by rw [← m10]; exact box_new _ _ _ 0 _ rfl); have f10 : k10.cell? ⟨w.heap.size, 1, none⟩ = some (.int .i64 x_day) := (by rw [← m10]; exact box_new _ _ _ 1 _ rfl); have c10 : k10.cell? ⟨w.heap.size, 2, none⟩ = some (.int .i64 x_zone) := (by rw [← m10]; exact box_new _ _ _ 2 _ rfl); have j10 : k10.cell? ⟨w.heap.size, 3, none⟩ = some (.int .i64 x_grams) := (by rw [← m10]; exact box_new _ _ _ 3 _ rfl); have d10 : k10.cell? ⟨w.heap.size, 4, none⟩ = some (.int .i64 x_paid) := (by rw [← m10]; exact box_new _ _ _ 4 _ rfl); have i10 : k10.cell? ⟨w.heap.size, 5, none⟩ = some (.int .i64 x_from_) := (by rw [← m10]; exact box_new _ _ _ 5 _ rfl); have e10 : k10.cell? ⟨w.heap.size, 6, none⟩ = some (.int .i64 x_to_) := (by rw [← m10]; exact box_new _ _ _ 6 _ rfl); have h10 : k10.cell? ⟨w.heap.size, 7, none⟩ = some (.int .i64 x_leave) := (by rw [← m10]; exact box_new _ _ _ 7 _ rfl); have g10 : k10.cell? ⟨w.heap.size, 8, none⟩ = some (.int .i64 x_arrive) := (by rw [← m10]; exact box_new _ _ _ 8 _ rfl); go_wp2_with fail; have s10 := Lib.hid b10; replace b10 := cell_regrown b10; have t10 := Lib.hid f10; replace f10 := cell_regrown f10; have y10 := Lib.hid c10; replace c10 := cell_regrown c10; have w10 := Lib.hid j10; replace j10 := cell_regrown j10; have p10 := Lib.hid d10; replace d10 := cell_regrown d10; have q10 := Lib.hid i10; replace i10 := cell_regrown i10; have x10 := Lib.hid e10; replace e10 := cell_regrown e10; have r10 := Lib.hid h10; replace h10 := cell_regrown h10; have v10 := Lib.hid g10; replace g10 := cell_regrown g10; replace H := bind_hid H; obtain ⟨t_4, qt_4, H⟩ := H; have nt_4 : ∀ d os, Calls Try.prog 47 #[.slice A0 mails.length c0] (Go.Sort.grow (redrawn k10 d) os) fun e w'' => e = .returned (.bool t_4) ∧ ∃ p : Regrown, w'' = Go.Sort.grow (redrawn k10 p.d) p.os := fun d os => Calls.regrown_of (GiIsTimetable.C (mails) A0 c0 _   (Lib.hid (Cells.below (Cells.below M0.out a11.out) (below_regrown _ _ _))) N0 qt_4)
 cases t_4 with
 | false =>
  replace H := let_hid H; obtain ⟨t_5, ht_5, H⟩ := H; obtain rfl : t_5 = true := ht_5.symm; replace H := join_hid H; replace H := ite_t H; replace H := app_hid H; replace H := join_hid H; replace H := ite_t H; replace H := app_hid H; refine wp_region_quiet_below (by kernel_rfl) (by kernel_rfl) ?_
  repeat (go_big_quiet_step (first | (go_at_call 47; exact nt_4 _ _)))
  refine wpQuiet_nil ?_; intro Y1 hY1; replace hY1 := below_class hY1; clear nt_4; replace b10 := s10.out; clear s10; replace f10 := t10.out; clear t10; replace c10 := y10.out; clear y10; replace j10 := w10.out; clear w10; replace d10 := p10.out; clear p10; replace i10 := q10.out; clear q10; replace e10 := x10.out; clear x10; replace h10 := r10.out; clear r10; replace g10 := v10.out; clear v10; have HBY1 := Lib.hid (Below.step a11.out hY1); replace b10 := cell_below hY1 b10; replace f10 := cell_below hY1 f10; replace c10 := cell_below hY1 c10; replace j10 := cell_below hY1 j10; replace d10 := cell_below hY1 d10; replace i10 := cell_below hY1 i10; replace e10 := cell_below hY1 e10; replace h10 := cell_below hY1 h10; replace g10 := cell_below hY1 g10; clear hY1; replace H := ite_t H; obtain ⟨o10, n10⟩ : ∃ x, Y1.alloc (.cells #[] 3) = x := ⟨_, rfl⟩; have a10 : Below Y1.heap.size Y1 o10 := (by rw [← n10]; exact (Below.refl _ _).alloc (Nat.le_refl _) _); have z10 : Hid (o10.ownsRow w.heap.size 3 1 (.slice (some ⟨Y1.heap.size, 0, none⟩) 0 0) 0 []) := Lib.hid (by rw [← n10]; exact own_empty HBY1.out.size); have f11 := Lib.hid (apart_box b10); have b11 := Lib.hid (Below.step HBY1.out a10); have j12 := cell_below a10 b10; have m11 := cell_below a10 f10; have d12 := cell_below a10 c10; have n11 := cell_below a10 j10; have p12 := cell_below a10 d10; have s11 := cell_below a10 i10; have o12 := cell_below a10 e10; have n12 := cell_below a10 h10; have z11 := cell_below a10 g10; clear a10; cases ret_hid H; go_wp2_with fail; go_ret2; exact ⟨(some ⟨Y1.heap.size, 0, none⟩), 0, rfl, z10.out, b11.out⟩
 | true =>
  replace H := let_hid H; obtain ⟨t_5, ht_5, H⟩ := H; obtain rfl : t_5 = false := ht_5.symm; replace H := join_hid H; replace H := ite_f H; replace H := bind_hid H; obtain ⟨t_8, qt_8, H⟩ := H; have nt_8 : ∀ d os, Calls Try.prog 18 #[.agg #[.int .i64 x_id, .int .i64 x_day, .int .i64 x_zone, .int .i64 x_grams, .int .i64 x_paid, .int .i64 x_from_, .int .i64 x_to_, .int .i64 x_leave, .int .i64 x_arrive]] (Go.Sort.grow (redrawn k10 d) os) fun e w'' => e = .returned (.bool t_8) ∧ ∃ p : Regrown, w'' = Go.Sort.grow (redrawn k10 p.d) p.os := fun d os => Calls.regrown_of (GiIsCover.C ((PCover.Cover.mk x_id x_day x_zone x_grams x_paid x_from_ x_to_ x_leave x_arrive))  _    qt_8)
  cases t_8 with
  | false =>
   replace H := let_hid H; obtain ⟨t_9, ht_9, H⟩ := H; obtain rfl : t_9 = true := ht_9.symm; replace H := app_hid H; replace H := join_hid H; replace H := ite_t H; replace H := app_hid H; refine wp_region_quiet_below (by kernel_rfl) (by kernel_rfl) ?_
   repeat (go_big_quiet_step (first | (go_at_call 47; exact nt_4 _ _) | (go_at_call 18; exact nt_8 _ _)))
   refine wpQuiet_nil ?_; intro Y1 hY1; replace hY1 := below_class hY1; clear nt_4 nt_8; replace b10 := s10.out; clear s10; replace f10 := t10.out; clear t10; replace c10 := y10.out; clear y10; replace j10 := w10.out; clear w10; replace d10 := p10.out; clear p10; replace i10 := q10.out; clear q10; replace e10 := x10.out; clear x10; replace h10 := r10.out; clear r10; replace g10 := v10.out; clear v10; have HBY1 := Lib.hid (Below.step a11.out hY1); replace b10 := cell_below hY1 b10; replace f10 := cell_below hY1 f10; replace c10 := cell_below hY1 c10; replace j10 := cell_below hY1 j10; replace d10 := cell_below hY1 d10; replace i10 := cell_below hY1 i10; replace e10 := cell_below hY1 e10; replace h10 := cell_below hY1 h10; replace g10 := cell_below hY1 g10; clear hY1; replace H := ite_t H; obtain ⟨o10, n10⟩ : ∃ x, Y1.alloc (.cells #[] 3) = x := ⟨_, rfl⟩; have a10 : Below Y1.heap.size Y1 o10 := (by rw [← n10]; exact (Below.refl _ _).alloc (Nat.le_refl _) _); have z10 : Hid (o10.ownsRow w.heap.size 3 1 (.slice (some ⟨Y1.heap.size, 0, none⟩) 0 0) 0 []) := Lib.hid (by rw [← n10]; exact own_empty HBY1.out.size); have f11 := Lib.hid (apart_box b10); have b11 := Lib.hid (Below.step HBY1.out a10); have b12 := cell_below a10 b10; have q11 := cell_below a10 f10; have e12 := cell_below a10 c10; have y11 := cell_below a10 j10; have v11 := cell_below a10 d10; have p11 := cell_below a10 i10; have t11 := cell_below a10 e10; have f12 := cell_below a10 h10; have t12 := cell_below a10 g10; clear a10; cases ret_hid H; go_wp2_with fail; go_ret2; exact ⟨(some ⟨Y1.heap.size, 0, none⟩), 0, rfl, z10.out, b11.out⟩
  | true =>
   replace H := let_hid H; obtain ⟨t_9, ht_9, H⟩ := H; obtain rfl : t_9 = false := ht_9.symm; replace H := app_hid H; replace H := join_hid H; replace H := ite_f H; replace H := bind_hid H; obtain ⟨t_14, k11, H⟩ := H; have e11 : ∀ d os, Calls Try.prog 48 #[.slice A0 mails.length c0, .agg #[.int .i64 x_id, .int .i64 x_day, .int .i64 x_zone, .int .i64 x_grams, .int .i64 x_paid, .int .i64 x_from_, .int .i64 x_to_, .int .i64 x_leave, .int .i64 x_arrive]] (Go.Sort.grow (redrawn k10 d) os) fun e w'' => e = .returned (.int .i64 t_14) ∧ ∃ p : Regrown, w'' = Go.Sort.grow (redrawn k10 p.d) p.os := fun d os => Calls.regrown_of (GiEarliestEnd.C (mails) ((PCover.Cover.mk x_id x_day x_zone x_grams x_paid x_from_ x_to_ x_leave x_arrive)) A0 c0 _   (Lib.hid (Cells.below (Cells.below M0.out a11.out) (below_regrown _ _ _))) N0 k11); replace H := let_hid H; obtain ⟨t_17, r12, H⟩ := H; replace H := app_hid H; refine wp_region_quiet_below (by kernel_rfl) (by kernel_rfl) ?_
   repeat (go_big_quiet_step (first | (go_at_call 47; exact nt_4 _ _) | (go_at_call 18; exact nt_8 _ _) | (go_at_call 48; exact e11 _ _)))
   refine wpQuiet_nil ?_; intro Y1 hY1; replace hY1 := below_class hY1; clear nt_4 nt_8 e11; replace b10 := s10.out; clear s10; replace f10 := t10.out; clear t10; replace c10 := y10.out; clear y10; replace j10 := w10.out; clear w10; replace d10 := p10.out; clear p10; replace i10 := q10.out; clear q10; replace e10 := x10.out; clear x10; replace h10 := r10.out; clear r10; replace g10 := v10.out; clear v10; have HBY1 := Lib.hid (Below.step a11.out hY1); replace b10 := cell_below hY1 b10; replace f10 := cell_below hY1 f10; replace c10 := cell_below hY1 c10; replace j10 := cell_below hY1 j10; replace d10 := cell_below hY1 d10; replace i10 := cell_below hY1 i10; replace e10 := cell_below hY1 e10; replace h10 := cell_below hY1 h10; replace g10 := cell_below hY1 g10; clear hY1
   cases t_17 with
   | false =>
    replace H := ite_f H; replace H := bind2_hid H; obtain ⟨r11, a12, l11, H⟩ := H; go_wp2_with fail; go_at_call 49; refine (GiBestRoute.C fuel (mails) (x_from_) (x_leave) (x_to_) A0 c0 _   (Lib.hid (Cells.below M0.out HBY1.out)) N0 l11).mono ?_; rintro x11 w11 ⟨g11, i11, rfl, c11, l10⟩; have s12 := Lib.hid (apart_callbox c11 b10); have j11 := Lib.hid (own_lower c11 HBY1.out.size); clear c11; have h11 := Lib.hid (Below.step HBY1.out l10); replace b10 := cell_below l10 b10; replace f10 := cell_below l10 f10; replace c10 := cell_below l10 c10; replace j10 := cell_below l10 j10; replace d10 := cell_below l10 d10; replace i10 := cell_below l10 i10; replace e10 := cell_below l10 e10; replace h10 := cell_below l10 h10; replace g10 := cell_below l10 g10; clear l10; cases ret_hid H; go_wp2_with fail; go_ret2; exact ⟨g11, i11, rfl, j11.out, h11.out⟩
   | true =>
    replace H := ite_t H; obtain ⟨o10, n10⟩ : ∃ x, Y1.alloc (.cells #[] 3) = x := ⟨_, rfl⟩; have a10 : Below Y1.heap.size Y1 o10 := (by rw [← n10]; exact (Below.refl _ _).alloc (Nat.le_refl _) _); have z10 : Hid (o10.ownsRow w.heap.size 3 1 (.slice (some ⟨Y1.heap.size, 0, none⟩) 0 0) 0 []) := Lib.hid (by rw [← n10]; exact own_empty HBY1.out.size); have f11 := Lib.hid (apart_box b10); have b11 := Lib.hid (Below.step HBY1.out a10); have o11 := cell_below a10 b10; have c12 := cell_below a10 f10; have l12 := cell_below a10 c10; have m12 := cell_below a10 j10; have g12 := cell_below a10 d10; have i12 := cell_below a10 i10; have h12 := cell_below a10 e10; have k12 := cell_below a10 h10; have q12 := cell_below a10 g10; clear a10; cases ret_hid H; go_wp2_with fail; go_ret2; exact ⟨(some ⟨Y1.heap.size, 0, none⟩), 0, rfl, z10.out, b11.out⟩
end Go.Proofs.Ytgbcdmlcmnaimaa.GiRouteOn

namespace Go.Proofs.Ytgbcdmlcmnaimaa.GsL9Asked
open Go.RowKit
open Go.Proofs.Ytgbcdmlcmnaimaa.Rowed Go.Proofs.Ytgbcdmlcmnaimaa.Turn Go.Proofs.Ytgbcdmlcmnaimaa.Aid Go.Proofs.Ytgbcdmlcmnaimaa.GoP Go.Proofs.Ytgbcdmlcmnaimaa.GoM

def P (list : (List PMail.Mail)) (from_1 : Int) (minute : Int) : Option (Bool) :=
 Option.bind (GsL9Good.P list) fun (t_2 : Bool) =>
 joinK (fun (t_6 : Bool) =>
 joinK (fun (t_10 : Bool) =>
 some t_10) fun jt_10 => iteK t_6 (Option.bind (GsL9Minute.P minute) fun (t_9 : Bool) =>
 appK jt_10 t_9) (appK jt_10 false)) fun jt_6 => iteK t_2 (Option.bind (GsL9Office.P from_1) fun (t_5 : Bool) =>
 appK jt_6 t_5) (appK jt_6 false)

set_option maxRecDepth 100000 in
set_option maxHeartbeats 2000000 in
theorem C (list : (List PMail.Mail)) (from_1 : Int) (minute : Int) (A0 : Option Addr) (c0 : Nat)  (w : World) (M0 : Hid (Cells w 4 A0 list.length (PMail.flat list))) (N0 : Hid (list.length ≤ 9223372036854775807))  {r : Bool} (H : Hid (P list from_1 minute = some r)) :
  Calls Try.prog 99 #[.slice A0 list.length c0, .int .i64 from_1, .int .i64 minute] w (Gives (.bool r) w) := by
 have HB := Lib.hid (Below.refl w.heap.size w); unfold P at H; have N0o := N0.out
 go_enter Try.func99, Try.ntmps99
 replace H := bind_hid H; obtain ⟨t_2, qt_2, H⟩ := H; go_wp2_with fail; go_at_call 40; refine (GsL9Good.C (list) A0 c0 _   (Lib.hid (Cells.below M0.out HB.out)) N0 qt_2).mono ?_; rintro e10 wt_2 ⟨rfl, bt_2⟩; have b10 := Lib.hid (Below.step HB.out bt_2); clear bt_2; replace H := join_hid H
 cases t_2 with
 | false =>
  replace H := ite_f H; replace H := app_hid H; replace H := join_hid H; replace H := ite_f H; replace H := app_hid H; obtain rfl := ret_hid H; go_wp2_with fail; go_ret; exact ⟨rfl, b10.out⟩
 | true =>
  replace H := ite_t H; replace H := bind_hid H; obtain ⟨t_5, qt_5, H⟩ := H; go_wp2_with fail; go_at_call 74; refine (GsL9Office.C (from_1)  _    qt_5).mono ?_; rintro d10 wt_5 ⟨rfl, bt_5⟩; have a10 := Lib.hid (Below.step b10.out bt_5); clear bt_5; replace H := app_hid H; replace H := join_hid H
  cases t_5 with
  | false =>
   replace H := ite_f H; replace H := app_hid H; obtain rfl := ret_hid H; go_wp2_with fail; go_ret; exact ⟨rfl, a10.out⟩
  | true =>
   replace H := ite_t H; replace H := bind_hid H; obtain ⟨t_9, qt_9, H⟩ := H; go_wp2_with fail; go_at_call 86; refine (GsL9Minute.C (minute)  _    qt_9).mono ?_; rintro f10 wt_9 ⟨rfl, bt_9⟩; have c10 := Lib.hid (Below.step a10.out bt_9); clear bt_9; replace H := app_hid H; obtain rfl := ret_hid H; go_wp2_with fail; go_ret; exact ⟨rfl, c10.out⟩
end Go.Proofs.Ytgbcdmlcmnaimaa.GsL9Asked

namespace Go.Proofs.Ytgbcdmlcmnaimaa.GsEarliestAt
open Go.RowKit
open Go.Proofs.Ytgbcdmlcmnaimaa.Rowed Go.Proofs.Ytgbcdmlcmnaimaa.Turn Go.Proofs.Ytgbcdmlcmnaimaa.Aid Go.Proofs.Ytgbcdmlcmnaimaa.GoP Go.Proofs.Ytgbcdmlcmnaimaa.GoM

def P (list : (List PMail.Mail)) (from_1 : Int) (minute : Int) (to_3 : Int) : Option (Int × Bool) :=
 Option.bind (GsL9Asked.P list from_1 minute) fun (t_5 : Bool) =>
 letK (!t_5) fun (t_6 : Bool) =>
 joinK (fun (t_11 : Bool) =>
 iteK t_11
 (some (0, false))
 (Option.bind (GsL9Times.P list from_1 minute) fun (t_17 : (List Int)) =>
 Option.bind (idx t_17 to_3) fun (yt_19 : Int) =>
 letK (yt_19 == 10000) fun (t_23 : Bool) =>
 iteK t_23
 (some (0, false))
 (some (yt_19, true)))) fun jt_11 => iteK t_6 (appK jt_11 true) (Option.bind (GsL9Office.P to_3) fun (t_9 : Bool) =>
 letK (!t_9) fun (t_10 : Bool) =>
 appK jt_11 t_10)

set_option maxRecDepth 100000 in
set_option maxHeartbeats 2000000 in
theorem C (list : (List PMail.Mail)) (from_1 : Int) (minute : Int) (to_3 : Int) (A0 : Option Addr) (c0 : Nat)  (w : World) (M0 : Hid (Cells w 4 A0 list.length (PMail.flat list))) (N0 : Hid (list.length ≤ 9223372036854775807))  {r0 : Int} {r1 : Bool} (H : Hid (P list from_1 minute to_3 = some (r0, r1))) :
  Calls Try.prog 96 #[.slice A0 list.length c0, .int .i64 from_1, .int .i64 minute, .int .i64 to_3] w (Gives (.tuple #[.int .i64 r0, .bool r1]) w) := by
 have HB := Lib.hid (Below.refl w.heap.size w); unfold P at H; have N0o := N0.out
 go_enter Try.func96, Try.ntmps96
 replace H := bind_hid H; obtain ⟨t_5, qt_5, H⟩ := H; go_wp2_with fail; go_at_call 99; refine (GsL9Asked.C (list) (from_1) (minute) A0 c0 _   (Lib.hid (Cells.below M0.out HB.out)) N0 qt_5).mono ?_; rintro p10 wt_5 ⟨rfl, bt_5⟩; have j10 := Lib.hid (Below.step HB.out bt_5); clear bt_5
 cases t_5 with
 | false =>
  replace H := let_hid H; obtain ⟨t_6, ht_6, H⟩ := H; obtain rfl : t_6 = true := ht_6.symm; replace H := join_hid H; replace H := ite_t H; replace H := app_hid H; replace H := ite_t H; cases ret_hid H; go_wp2_with fail; go_ret2; exact ⟨rfl, j10.out⟩
 | true =>
  replace H := let_hid H; obtain ⟨t_6, ht_6, H⟩ := H; obtain rfl : t_6 = false := ht_6.symm; replace H := join_hid H; replace H := ite_f H; replace H := bind_hid H; obtain ⟨t_9, qt_9, H⟩ := H; go_wp2_with fail; go_at_call 74; refine (GsL9Office.C (to_3)  _    qt_9).mono ?_; rintro d11 wt_9 ⟨rfl, bt_9⟩; have b10 := Lib.hid (Below.step j10.out bt_9); clear bt_9
  cases t_9 with
  | false =>
   replace H := let_hid H; obtain ⟨t_10, c10, H⟩ := H; obtain rfl : t_10 = true := c10.symm; replace H := app_hid H; replace H := ite_t H; cases ret_hid H; go_wp2_with fail; go_ret2; exact ⟨rfl, b10.out⟩
  | true =>
   replace H := let_hid H; obtain ⟨t_10, c10, H⟩ := H; obtain rfl : t_10 = false := c10.symm; replace H := app_hid H; replace H := ite_f H; replace H := bind_hid H; obtain ⟨t_17, k10, H⟩ := H; go_wp2_with fail; go_at_call 87; refine (GsL9Times.C (list) (from_1) (minute) A0 c0 _   (Lib.hid (Cells.below M0.out b10.out)) N0 k10).mono ?_; rintro f11 t10 ⟨x10, e11, rfl, f10, i10⟩; have e10 := Lib.hid (own_lower f10 b10.out.size); clear f10; have g10 := Lib.hid (Below.step b10.out i10); clear i10; replace H := idx_hid H; obtain ⟨a10, q10, l10, c11, m10, H⟩ := H; subst l10; obtain ⟨z10, n10⟩ := own_some e10.out (by omega); subst n10; obtain ⟨b11, a11, v10, d10, h10, o10⟩ := HelpInt.Ints.at_ (own_cells e10.out) (k := a10) (by omega); obtain rfl := Option.some.inj (m10.out.symm.trans h10); simp only [Option.some.injEq, Addr.mk.injEq] at d10; obtain ⟨rfl, rfl, _⟩ := d10; clear h10; simp only [Nat.zero_add] at o10; have y10 : (0 : Int) ≤ (a10 : Int) := (by omega); have s10 : (a10 : Int) < ((t_17.length : Nat) : Int) := (by omega); have w10 : ((a10 : Int)).toNat = a10 := (by omega); replace H := let_hid H; obtain ⟨t_23, r10, H⟩ := H
   cases t_23 with
   | false =>
    replace H := ite_f H; cases ret_hid H; go_wp2_with fail; go_ret2; exact ⟨rfl, g10.out⟩
   | true =>
    replace H := ite_t H; cases ret_hid H; go_wp2_with fail; go_ret2; exact ⟨rfl, g10.out⟩
end Go.Proofs.Ytgbcdmlcmnaimaa.GsEarliestAt

