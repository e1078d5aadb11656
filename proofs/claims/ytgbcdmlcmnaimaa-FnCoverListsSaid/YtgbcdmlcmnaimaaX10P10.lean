/- Texts on which the proofs of several laws stand, one behind the other (10 of 18). No condition of their own. -/
import Derived.Test.YtgbcdmlcmnaimaaChecked
import Derived.Test.YtgbcdmlcmnaimaaX10P1
import Derived.Test.YtgbcdmlcmnaimaaX10P9
import Derived.WalkKit
import Derived.WalkSpells
import Derived.WalkLawsBesides
import Derived.BigQuiet
import Derived.OwnWalk
import Derived.Deep.LoopGhost
import Derived.Deep.QuietTactic
import Derived.IntWalk
import Derived.Lib.QuietBelow
import Derived.Test.YtgbcdmlcmnaimaaX10P8
import Derived.Test.YtgbcdmlcmnaimaaX10P7
import Derived.Test.YtgbcdmlcmnaimaaX10P4
import Derived.StillTailTactics
set_option linter.unusedVariables false
set_option linter.unusedSimpArgs false
namespace Go.Proofs.Ytgbcdmlcmnaimaa.GsL10Fault
open Go.RowKit
open Go.Proofs.Ytgbcdmlcmnaimaa.Rowed Go.Proofs.Ytgbcdmlcmnaimaa.Turn Go.Proofs.Ytgbcdmlcmnaimaa.Aid Go.Proofs.Ytgbcdmlcmnaimaa.GoP Go.Proofs.Ytgbcdmlcmnaimaa.GoM

def P (rates : (List PRate.Rate)) (mails : (List PMail.Mail)) (x : PCover.Cover) : Option (Int) :=
 unCover x fun (x_id : Int) (x_day : Int) (x_zone : Int) (x_grams : Int) (x_paid : Int) (x_from_ : Int) (x_to_ : Int) (x_leave : Int) (x_arrive : Int) =>
 Option.bind (GsL8For.P rates x_day x_zone x_grams) fun (t_9 : Int) =>
 Option.bind (GsL9Times.P mails x_from_ x_leave) fun (t_16 : (List Int)) =>
 Option.bind (idx t_16 x_to_) fun (yt_19 : Int) =>
 letK (t_9 == 0) fun (t_23 : Bool) =>
 iteK t_23
 (some 1)
 (letK (decide (x_paid < t_9)) fun (t_29 : Bool) =>
 iteK t_29
 (some 2)
 (letK (IntKind.i64.wrap (2 * t_9)) fun (t_35 : Int) =>
 letK (decide (t_35 < x_paid)) fun (t_36 : Bool) =>
 iteK t_36
 (some 3)
 (letK (yt_19 == 10000) fun (t_40 : Bool) =>
 iteK t_40
 (some 4)
 (letK (decide (x_arrive < yt_19)) fun (t_46 : Bool) =>
 iteK t_46
 (some 5)
 (some 0)))))

set_option maxRecDepth 100000 in
set_option maxHeartbeats 2000000 in
theorem C (rates : (List PRate.Rate)) (mails : (List PMail.Mail)) (x : PCover.Cover) (A0 : Option Addr) (c0 : Nat) (A1 : Option Addr) (c1 : Nat)  (w : World) (M0 : Hid (Cells w 5 A0 rates.length (PRate.flat rates))) (N0 : Hid (rates.length ≤ 9223372036854775807)) (M1 : Hid (Cells w 4 A1 mails.length (PMail.flat mails))) (N1 : Hid (mails.length ≤ 9223372036854775807))  {r : Int} (H : Hid (P rates mails x = some r)) :
  Calls Try.prog 42 #[.slice A0 rates.length c0, .slice A1 mails.length c1, x.val] w (Gives (.int .i64 r) w) := by
 have HB := Lib.hid (Below.refl w.heap.size w); unfold P at H; obtain ⟨x_id, x_day, x_zone, x_grams, x_paid, x_from_, x_to_, x_leave, x_arrive⟩ := x; replace H := unCover_hid H; unfold PCover.Cover.val; have N0o := N0.out; have N1o := N1.out
 go_enter Try.func42, Try.ntmps42
 obtain ⟨h10, j10⟩ : ∃ x, w.alloc (.cells #[.int .i64 x_id, .int .i64 x_day, .int .i64 x_zone, .int .i64 x_grams, .int .i64 x_paid, .int .i64 x_from_, .int .i64 x_to_, .int .i64 x_leave, .int .i64 x_arrive] 27) = x := ⟨_, rfl⟩; have r10 : Below w.heap.size w h10 := (by rw [← j10]; exact (Below.refl _ _).alloc (Nat.le_refl _) _); have q10 := Lib.hid (Below.step HB.out r10); clear r10; have a10 : h10.cell? ⟨w.heap.size, 0, none⟩ = some (.int .i64 x_id) := (by rw [← j10]; exact box_new _ _ _ 0 _ rfl); have g10 : h10.cell? ⟨w.heap.size, 1, none⟩ = some (.int .i64 x_day) := (by rw [← j10]; exact box_new _ _ _ 1 _ rfl); have m10 : h10.cell? ⟨w.heap.size, 2, none⟩ = some (.int .i64 x_zone) := (by rw [← j10]; exact box_new _ _ _ 2 _ rfl); have c10 : h10.cell? ⟨w.heap.size, 3, none⟩ = some (.int .i64 x_grams) := (by rw [← j10]; exact box_new _ _ _ 3 _ rfl); have f10 : h10.cell? ⟨w.heap.size, 4, none⟩ = some (.int .i64 x_paid) := (by rw [← j10]; exact box_new _ _ _ 4 _ rfl); have l10 : h10.cell? ⟨w.heap.size, 5, none⟩ = some (.int .i64 x_from_) := (by rw [← j10]; exact box_new _ _ _ 5 _ rfl); have d10 : h10.cell? ⟨w.heap.size, 6, none⟩ = some (.int .i64 x_to_) := (by rw [← j10]; exact box_new _ _ _ 6 _ rfl); have e10 : h10.cell? ⟨w.heap.size, 7, none⟩ = some (.int .i64 x_leave) := (by rw [← j10]; exact box_new _ _ _ 7 _ rfl); have k10 : h10.cell? ⟨w.heap.size, 8, none⟩ = some (.int .i64 x_arrive) := (by rw [← j10]; exact box_new _ _ _ 8 _ rfl); replace H := bind_hid H; obtain ⟨t_9, qt_9, H⟩ := H; go_wp2_with fail; go_at_call 45; refine (GsL8For.C (rates) (x_day) (x_zone) (x_grams) A0 c0 _   (Lib.hid (Cells.below M0.out q10.out)) N0 qt_9).mono ?_; rintro f11 wt_9 ⟨rfl, bt_9⟩; have o10 := Lib.hid (Below.step q10.out bt_9); replace a10 := cell_below bt_9 a10; replace g10 := cell_below bt_9 g10; replace m10 := cell_below bt_9 m10; replace c10 := cell_below bt_9 c10; replace f10 := cell_below bt_9 f10; replace l10 := cell_below bt_9 l10; replace d10 := cell_below bt_9 d10; replace e10 := cell_below bt_9 e10; replace k10 := cell_below bt_9 k10; clear bt_9; go_wp2_with fail; have bd2 : Below wt_9.heap.size wt_9 wt_9.drew := (Below.refl _ _).drew; have o10.drew := Lib.hid (Below.step o10.out bd2); replace a10 := cell_below bd2 a10; replace g10 := cell_below bd2 g10; replace m10 := cell_below bd2 m10; replace c10 := cell_below bd2 c10; replace f10 := cell_below bd2 f10; replace l10 := cell_below bd2 l10; replace d10 := cell_below bd2 d10; replace e10 := cell_below bd2 e10; replace k10 := cell_below bd2 k10; clear bd2; replace H := bind_hid H; obtain ⟨t_16, w10, H⟩ := H; replace H := idx_hid H; obtain ⟨i10, s10, d11, p11, a11, H⟩ := H; subst d11; refine wp_region_held_drew (S := fun w' => w'.cell? ⟨w.heap.size, 0, none⟩ = some (.int .i64 x_id) ∧ w'.cell? ⟨w.heap.size, 1, none⟩ = some (.int .i64 x_day) ∧ w'.cell? ⟨w.heap.size, 2, none⟩ = some (.int .i64 x_zone) ∧ w'.cell? ⟨w.heap.size, 3, none⟩ = some (.int .i64 x_grams) ∧ w'.cell? ⟨w.heap.size, 4, none⟩ = some (.int .i64 x_paid) ∧ w'.cell? ⟨w.heap.size, 5, none⟩ = some (.int .i64 x_from_) ∧ w'.cell? ⟨w.heap.size, 6, none⟩ = some (.int .i64 (i10 : Int)) ∧ w'.cell? ⟨w.heap.size, 7, none⟩ = some (.int .i64 x_leave) ∧ w'.cell? ⟨w.heap.size, 8, none⟩ = some (.int .i64 x_arrive) ∧ Hid (0 ≤ w'.heap.size)) (by kernel_rfl) ⟨a10, g10, m10, c10, f10, l10, d10, e10, k10, Lib.hid (Nat.zero_le _)⟩ (fun hHeld => ?_); refine wpAnyH_take (i := 0) (oi := _) (v := ?_) rfl (by kernel_rfl) (by kernel_rfl) (by kernel_rfl) (fun _ _ _ h => h) (Or.inl ⟨by rfl, ?_⟩) (by assumption) ?_
 rotate_left
 ·
  intro w hSw
  (try dsimp only at hSw)
  (try simp only [List.getElem_toArray, List.getElem_cons_zero, List.getElem_cons_succ])
  go_simp
  (try with_reducible rfl)
 try simp only [Act.put, List.getElem_toArray, List.getElem_cons_zero, List.getElem_cons_succ, List.setIfInBounds_toArray, List.set_cons_zero, List.set_cons_succ]
 refine wpAnyH_take (i := 1) (oi := _) (v := ?_) rfl (by kernel_rfl) (by kernel_rfl) (by kernel_rfl) (fun _ _ _ h => h) (Or.inl ⟨by rfl, ?_⟩) (by assumption) ?_
 rotate_left
 ·
  intro w hSw
  (try dsimp only at hSw)
  (try simp only [List.getElem_toArray, List.getElem_cons_zero, List.getElem_cons_succ])
  go_simp
  (try with_reducible rfl)
 try simp only [Act.put, List.getElem_toArray, List.getElem_cons_zero, List.getElem_cons_succ, List.setIfInBounds_toArray, List.set_cons_zero, List.set_cons_succ]
 refine wpAnyH_take (i := 2) (oi := _) (v := ?_) rfl (by kernel_rfl) (by kernel_rfl) (by kernel_rfl) (fun _ _ _ h => h) (Or.inl ⟨by rfl, ?_⟩) (by assumption) ?_
 rotate_left
 ·
  intro w hSw
  (try dsimp only at hSw)
  (try simp only [List.getElem_toArray, List.getElem_cons_zero, List.getElem_cons_succ])
  go_simp
  (try with_reducible rfl)
 try simp only [Act.put, List.getElem_toArray, List.getElem_cons_zero, List.getElem_cons_succ, List.setIfInBounds_toArray, List.set_cons_zero, List.set_cons_succ]
 refine wpAnyH_take (i := 3) (oi := _) (v := ?_) rfl (by kernel_rfl) (by kernel_rfl) (by kernel_rfl) (fun _ _ _ h => h) (Or.inl ⟨by rfl, ?_⟩) (by assumption) ?_
 rotate_left
 ·
  intro w hSw
  (try dsimp only at hSw)
  (try simp only [List.getElem_toArray, List.getElem_cons_zero, List.getElem_cons_succ])
  go_simp
  (try with_reducible rfl)
 try simp only [Act.put, List.getElem_toArray, List.getElem_cons_zero, List.getElem_cons_succ, List.setIfInBounds_toArray, List.set_cons_zero, List.set_cons_succ]
 refine wpAnyH_take (i := 4) (oi := _) (v := ?_) rfl (by kernel_rfl) (by kernel_rfl) (by kernel_rfl) (fun _ _ _ h => h) (Or.inl ⟨by rfl, ?_⟩) (by assumption) ?_
 rotate_left
 ·
  intro w hSw
  (try dsimp only at hSw)
  (try simp only [List.getElem_toArray, List.getElem_cons_zero, List.getElem_cons_succ])
  go_simp
  (try with_reducible rfl)
 try simp only [Act.put, List.getElem_toArray, List.getElem_cons_zero, List.getElem_cons_succ, List.setIfInBounds_toArray, List.set_cons_zero, List.set_cons_succ]
 refine wpAnyH_take (i := 6) (oi := _) (v := ?_) rfl (by kernel_rfl) (by kernel_rfl) (by kernel_rfl) (fun _ _ _ h => h) (Or.inl ⟨by rfl, ?_⟩) (by assumption) ?_
 rotate_left
 ·
  intro w hSw
  (try dsimp only at hSw)
  (try simp only [List.getElem_toArray, List.getElem_cons_zero, List.getElem_cons_succ])
  go_simp
  (try with_reducible rfl)
 try simp only [Act.put, List.getElem_toArray, List.getElem_cons_zero, List.getElem_cons_succ, List.setIfInBounds_toArray, List.set_cons_zero, List.set_cons_succ]
 refine wpAnyH_take (i := 7) (oi := _) (v := ?_) rfl (by kernel_rfl) (by kernel_rfl) (by kernel_rfl) (fun _ _ _ h => h) (Or.inl ⟨by rfl, ?_⟩) (by assumption) ?_
 rotate_left
 ·
  intro w hSw
  (try dsimp only at hSw)
  (try simp only [List.getElem_toArray, List.getElem_cons_zero, List.getElem_cons_succ])
  go_simp
  (try with_reducible rfl)
 try simp only [Act.put, List.getElem_toArray, List.getElem_cons_zero, List.getElem_cons_succ, List.setIfInBounds_toArray, List.set_cons_zero, List.set_cons_succ]
 refine wpAnyH_ready (rs := [5]) (by kernel_rfl) (by simp) ?_; refine AllReadyH.cons (o := _) rfl (fun K_ hK_ => ?_) AllReadyH.nil
 (try simp only [List.getElem_toArray, List.getElem_cons_zero, List.getElem_cons_succ])
 go_simp
 go_at_call 87; refine (GsL9Times.C (mails) (x_from_) (x_leave) A1 c1 _   (Lib.hid (Cells.below M1.out o10.drew.out)) N1 w10).mono ?_; rintro m11 c11 ⟨r11, v11, rfl, p10, b10⟩; have j11 := Lib.hid (apart_callbox p10 a10); have z10 := Lib.hid (own_lower p10 o10.drew.out.size); clear p10; have n10 := Lib.hid (Below.step o10.drew.out b10); replace a10 := cell_below b10 a10; replace g10 := cell_below b10 g10; replace m10 := cell_below b10 m10; replace c10 := cell_below b10 c10; replace f10 := cell_below b10 f10; replace l10 := cell_below b10 l10; replace d10 := cell_below b10 d10; replace e10 := cell_below b10 e10; replace k10 := cell_below b10 k10; clear b10; clear w10
 first | refine hK_.out _ _ ⟨a10, g10, m10, c10, f10, l10, d10, e10, k10, Lib.hid (Nat.zero_le _)⟩ (fun hHeld => ?_) | (go_wp2_with fail; refine hK_.out _ _ ⟨a10, g10, m10, c10, f10, l10, d10, e10, k10, Lib.hid (Nat.zero_le _)⟩ (fun hHeld => ?_))
 clear hK_ K_
 try simp only [Act.put, List.getElem_toArray, List.getElem_cons_zero, List.getElem_cons_succ, List.setIfInBounds_toArray, List.set_cons_zero, List.set_cons_succ]
 obtain ⟨x10, b11⟩ := own_some z10.out (by omega); subst b11; obtain ⟨h11, s11, q11, v10, t10, y10⟩ := HelpInt.Ints.at_ (own_cells z10.out) (k := i10) (by omega); obtain rfl := Option.some.inj (a11.out.symm.trans t10); simp only [Option.some.injEq, Addr.mk.injEq] at v10; obtain ⟨rfl, rfl, _⟩ := v10; clear t10; simp only [Nat.zero_add] at y10; have i11 : (0 : Int) ≤ (i10 : Int) := (by omega); have n11 : (i10 : Int) < ((t_16.length : Nat) : Int) := (by omega); have e11 : ((i10 : Int)).toNat = i10 := (by omega); refine wpAnyH_take (i := 8) (oi := _) (v := ?_) rfl (by kernel_rfl) (by kernel_rfl) (by kernel_rfl) (fun _ _ _ h => h) (Or.inl ⟨by rfl, ?_⟩) (by assumption) ?_
 rotate_left
 ·
  intro w hSw
  (try dsimp only at hSw)
  (try simp only [List.getElem_toArray, List.getElem_cons_zero, List.getElem_cons_succ])
  go_simp
  (try with_reducible rfl)
 try simp only [Act.put, List.getElem_toArray, List.getElem_cons_zero, List.getElem_cons_succ, List.setIfInBounds_toArray, List.set_cons_zero, List.set_cons_succ]
 refine GoR.wpAnyH_more (S' := fun w' => w'.cell? ⟨w.heap.size, 0, none⟩ = some (.int .i64 x_id) ∧ w'.cell? ⟨w.heap.size, 1, none⟩ = some (.int .i64 x_day) ∧ w'.cell? ⟨w.heap.size, 2, none⟩ = some (.int .i64 x_zone) ∧ w'.cell? ⟨w.heap.size, 3, none⟩ = some (.int .i64 x_grams) ∧ w'.cell? ⟨w.heap.size, 4, none⟩ = some (.int .i64 x_paid) ∧ w'.cell? ⟨w.heap.size, 5, none⟩ = some (.int .i64 x_from_) ∧ w'.cell? ⟨w.heap.size, 6, none⟩ = some (.int .i64 (i10 : Int)) ∧ w'.cell? ⟨w.heap.size, 7, none⟩ = some (.int .i64 x_leave) ∧ w'.cell? ⟨w.heap.size, 8, none⟩ = some (.int .i64 x_arrive) ∧ w'.cell? ⟨x10, i10, none⟩ = some (.int .i64 s10) ∧ Hid (0 ≤ w'.heap.size)) (fun w' hS_ => ?_) _ _ _ _ ?_
 ·
  go_split_ands; (repeat' apply And.intro) <;> first | assumption | exact Lib.hid (Nat.zero_le _)
 have hHeld : (fun w' => w'.cell? ⟨w.heap.size, 0, none⟩ = some (.int .i64 x_id) ∧ w'.cell? ⟨w.heap.size, 1, none⟩ = some (.int .i64 x_day) ∧ w'.cell? ⟨w.heap.size, 2, none⟩ = some (.int .i64 x_zone) ∧ w'.cell? ⟨w.heap.size, 3, none⟩ = some (.int .i64 x_grams) ∧ w'.cell? ⟨w.heap.size, 4, none⟩ = some (.int .i64 x_paid) ∧ w'.cell? ⟨w.heap.size, 5, none⟩ = some (.int .i64 x_from_) ∧ w'.cell? ⟨w.heap.size, 6, none⟩ = some (.int .i64 (i10 : Int)) ∧ w'.cell? ⟨w.heap.size, 7, none⟩ = some (.int .i64 x_leave) ∧ w'.cell? ⟨w.heap.size, 8, none⟩ = some (.int .i64 x_arrive) ∧ w'.cell? ⟨x10, i10, none⟩ = some (.int .i64 s10) ∧ Hid (0 ≤ w'.heap.size)) c11 := ⟨a10, g10, m10, c10, f10, l10, d10, e10, k10, y10, Lib.hid (Nat.zero_le _)⟩; refine wpAnyH_take (i := 9) (oi := _) (v := ?_) rfl (by kernel_rfl) (by kernel_rfl) (by kernel_rfl) (fun _ _ _ h => h) (Or.inl ⟨by rfl, ?_⟩) (by assumption) ?_
 rotate_left
 ·
  intro w hSw
  (try dsimp only at hSw)
  (try simp only [List.getElem_toArray, List.getElem_cons_zero, List.getElem_cons_succ])
  go_simp
  (try with_reducible rfl)
 try simp only [Act.put, List.getElem_toArray, List.getElem_cons_zero, List.getElem_cons_succ, List.setIfInBounds_toArray, List.set_cons_zero, List.set_cons_succ]
 refine wpAnyH_take (i := 10) (oi := _) (v := ?_) rfl (by kernel_rfl) (by kernel_rfl) (by kernel_rfl) (fun _ _ _ h => h) (Or.inl ⟨by rfl, ?_⟩) (by assumption) ?_
 rotate_left
 ·
  intro w hSw
  (try dsimp only at hSw)
  (try simp only [List.getElem_toArray, List.getElem_cons_zero, List.getElem_cons_succ])
  go_simp
  (try with_reducible rfl)
 try simp only [Act.put, List.getElem_toArray, List.getElem_cons_zero, List.getElem_cons_succ, List.setIfInBounds_toArray, List.set_cons_zero, List.set_cons_succ]
 refine wpAnyH_done (by kernel_rfl) ?_ _; replace H := let_hid H; obtain ⟨t_23, g11, H⟩ := H
 cases t_23 with
 | false =>
  replace H := ite_f H; replace H := let_hid H; obtain ⟨t_29, w11, H⟩ := H
  cases t_29 with
  | false =>
   replace H := ite_f H; replace H := let_hid H; obtain ⟨t_35, t11, H⟩ := H; replace H := let_hid H; obtain ⟨t_36, l11, H⟩ := H
   cases t_36 with
   | false =>
    replace H := ite_f H; replace H := let_hid H; obtain ⟨t_40, o11, H⟩ := H
    cases t_40 with
    | false =>
     replace H := ite_f H; replace H := let_hid H; obtain ⟨t_46, k11, H⟩ := H
     cases t_46 with
     | false =>
      replace H := ite_f H; obtain rfl := ret_hid H; go_wp2_with fail; go_ret; exact ⟨rfl, n10.out⟩
     | true =>
      replace H := ite_t H; obtain rfl := ret_hid H; go_wp2_with fail; go_ret; exact ⟨rfl, n10.out⟩
    | true =>
     replace H := ite_t H; obtain rfl := ret_hid H; go_wp2_with fail; go_ret; exact ⟨rfl, n10.out⟩
   | true =>
    replace H := ite_t H; obtain rfl := ret_hid H; go_wp2_with fail; go_ret; exact ⟨rfl, n10.out⟩
  | true =>
   replace H := ite_t H; obtain rfl := ret_hid H; go_wp2_with fail; go_ret; exact ⟨rfl, n10.out⟩
 | true =>
  replace H := ite_t H; obtain rfl := ret_hid H; go_wp2_with fail; go_ret; exact ⟨rfl, n10.out⟩
end Go.Proofs.Ytgbcdmlcmnaimaa.GsL10Fault

namespace Go.Proofs.Ytgbcdmlcmnaimaa.GsFaultOf
open Go.RowKit
open Go.Proofs.Ytgbcdmlcmnaimaa.Rowed Go.Proofs.Ytgbcdmlcmnaimaa.Turn Go.Proofs.Ytgbcdmlcmnaimaa.Aid Go.Proofs.Ytgbcdmlcmnaimaa.GoP Go.Proofs.Ytgbcdmlcmnaimaa.GoM

def P (fuel : Nat) (rates : (List PRate.Rate)) (mails : (List PMail.Mail)) (x : PCover.Cover) : Option (Int × Bool) :=
 unCover x fun (x_id : Int) (x_day : Int) (x_zone : Int) (x_grams : Int) (x_paid : Int) (x_from_ : Int) (x_to_ : Int) (x_leave : Int) (x_arrive : Int) =>
 Option.bind (GsL8Good.P fuel rates) fun (t_4 : Bool) =>
 letK (!t_4) fun (t_5 : Bool) =>
 joinK (fun (t_10 : Bool) =>
 joinK (fun (t_15 : Bool) =>
 iteK t_15
 (some (0, false))
 (Option.bind (GsL10Fault.P rates mails (PCover.Cover.mk x_id x_day x_zone x_grams x_paid x_from_ x_to_ x_leave x_arrive)) fun (t_21 : Int) =>
 some (t_21, true))) fun jt_15 => iteK t_10 (appK jt_15 true) (Option.bind (GsL10One.P (PCover.Cover.mk x_id x_day x_zone x_grams x_paid x_from_ x_to_ x_leave x_arrive)) fun (t_13 : Bool) =>
 letK (!t_13) fun (t_14 : Bool) =>
 appK jt_15 t_14)) fun jt_10 => iteK t_5 (appK jt_10 true) (Option.bind (GsL9Good.P mails) fun (t_8 : Bool) =>
 letK (!t_8) fun (t_9 : Bool) =>
 appK jt_10 t_9)

set_option maxRecDepth 100000 in
set_option maxHeartbeats 2000000 in
theorem C (fuel : Nat) (rates : (List PRate.Rate)) (mails : (List PMail.Mail)) (x : PCover.Cover) (A0 : Option Addr) (c0 : Nat) (A1 : Option Addr) (c1 : Nat)  (w : World) (M0 : Hid (Cells w 5 A0 rates.length (PRate.flat rates))) (N0 : Hid (rates.length ≤ 9223372036854775807)) (M1 : Hid (Cells w 4 A1 mails.length (PMail.flat mails))) (N1 : Hid (mails.length ≤ 9223372036854775807))  {r0 : Int} {r1 : Bool} (H : Hid (P fuel rates mails x = some (r0, r1))) :
  Calls Try.prog 8 #[.slice A0 rates.length c0, .slice A1 mails.length c1, x.val] w (Gives (.tuple #[.int .i64 r0, .bool r1]) w) := by
 have HB := Lib.hid (Below.refl w.heap.size w); unfold P at H; obtain ⟨x_id, x_day, x_zone, x_grams, x_paid, x_from_, x_to_, x_leave, x_arrive⟩ := x; replace H := unCover_hid H; unfold PCover.Cover.val; have N0o := N0.out; have N1o := N1.out
 go_enter Try.func8, Try.ntmps8
 obtain ⟨c10, d10⟩ : ∃ x, w.alloc (.cells #[.int .i64 x_id, .int .i64 x_day, .int .i64 x_zone, .int .i64 x_grams, .int .i64 x_paid, .int .i64 x_from_, .int .i64 x_to_, .int .i64 x_leave, .int .i64 x_arrive] 27) = x := ⟨_, rfl⟩; have q10 : Below w.heap.size w c10 := (by rw [← d10]; exact (Below.refl _ _).alloc (Nat.le_refl _) _); have s10 := Lib.hid (Below.step HB.out q10); clear q10; have h10 : c10.cell? ⟨w.heap.size, 0, none⟩ = some (.int .i64 x_id) := (by rw [← d10]; exact box_new _ _ _ 0 _ rfl); have e10 : c10.cell? ⟨w.heap.size, 1, none⟩ = some (.int .i64 x_day) := (by rw [← d10]; exact box_new _ _ _ 1 _ rfl); have i10 : c10.cell? ⟨w.heap.size, 2, none⟩ = some (.int .i64 x_zone) := (by rw [← d10]; exact box_new _ _ _ 2 _ rfl); have m10 : c10.cell? ⟨w.heap.size, 3, none⟩ = some (.int .i64 x_grams) := (by rw [← d10]; exact box_new _ _ _ 3 _ rfl); have j10 : c10.cell? ⟨w.heap.size, 4, none⟩ = some (.int .i64 x_paid) := (by rw [← d10]; exact box_new _ _ _ 4 _ rfl); have g10 : c10.cell? ⟨w.heap.size, 5, none⟩ = some (.int .i64 x_from_) := (by rw [← d10]; exact box_new _ _ _ 5 _ rfl); have f10 : c10.cell? ⟨w.heap.size, 6, none⟩ = some (.int .i64 x_to_) := (by rw [← d10]; exact box_new _ _ _ 6 _ rfl); have l10 : c10.cell? ⟨w.heap.size, 7, none⟩ = some (.int .i64 x_leave) := (by rw [← d10]; exact box_new _ _ _ 7 _ rfl); have k10 : c10.cell? ⟨w.heap.size, 8, none⟩ = some (.int .i64 x_arrive) := (by rw [← d10]; exact box_new _ _ _ 8 _ rfl); replace H := bind_hid H; obtain ⟨t_4, qt_4, H⟩ := H; go_wp2_with fail; go_at_call 39; refine (GsL8Good.C fuel (rates) A0 c0 _   (Lib.hid (Cells.below M0.out s10.out)) N0 qt_4).mono ?_; rintro c11 wt_4 ⟨rfl, bt_4⟩; have o10 := Lib.hid (Below.step s10.out bt_4); replace h10 := cell_below bt_4 h10; replace e10 := cell_below bt_4 e10; replace i10 := cell_below bt_4 i10; replace m10 := cell_below bt_4 m10; replace j10 := cell_below bt_4 j10; replace g10 := cell_below bt_4 g10; replace f10 := cell_below bt_4 f10; replace l10 := cell_below bt_4 l10; replace k10 := cell_below bt_4 k10; clear bt_4
 cases t_4 with
 | false =>
  replace H := let_hid H; obtain ⟨t_5, ht_5, H⟩ := H; obtain rfl : t_5 = true := ht_5.symm; replace H := join_hid H; replace H := ite_t H; replace H := app_hid H; replace H := join_hid H; replace H := ite_t H; replace H := app_hid H; replace H := ite_t H; cases ret_hid H; go_wp2_with fail; go_ret2; exact ⟨rfl, o10.out⟩
 | true =>
  replace H := let_hid H; obtain ⟨t_5, ht_5, H⟩ := H; obtain rfl : t_5 = false := ht_5.symm; replace H := join_hid H; replace H := ite_f H; replace H := bind_hid H; obtain ⟨t_8, qt_8, H⟩ := H; go_wp2_with fail; go_at_call 40; refine (GsL9Good.C (mails) A1 c1 _   (Lib.hid (Cells.below M1.out o10.out)) N1 qt_8).mono ?_; rintro b11 wt_8 ⟨rfl, bt_8⟩; have r10 := Lib.hid (Below.step o10.out bt_8); replace h10 := cell_below bt_8 h10; replace e10 := cell_below bt_8 e10; replace i10 := cell_below bt_8 i10; replace m10 := cell_below bt_8 m10; replace j10 := cell_below bt_8 j10; replace g10 := cell_below bt_8 g10; replace f10 := cell_below bt_8 f10; replace l10 := cell_below bt_8 l10; replace k10 := cell_below bt_8 k10; clear bt_8
  cases t_8 with
  | false =>
   replace H := let_hid H; obtain ⟨t_9, ht_9, H⟩ := H; obtain rfl : t_9 = true := ht_9.symm; replace H := app_hid H; replace H := join_hid H; replace H := ite_t H; replace H := app_hid H; replace H := ite_t H; cases ret_hid H; go_wp2_with fail; go_ret2; exact ⟨rfl, r10.out⟩
  | true =>
   replace H := let_hid H; obtain ⟨t_9, ht_9, H⟩ := H; obtain rfl : t_9 = false := ht_9.symm; replace H := app_hid H; replace H := join_hid H; replace H := ite_f H; replace H := bind_hid H; obtain ⟨t_13, w10, H⟩ := H; go_wp2_with fail; go_at_call 41; refine (GsL10One.C ((PCover.Cover.mk x_id x_day x_zone x_grams x_paid x_from_ x_to_ x_leave x_arrive))  _    w10).mono ?_; rintro x10 a11 ⟨rfl, b10⟩; have n10 := Lib.hid (Below.step r10.out b10); replace h10 := cell_below b10 h10; replace e10 := cell_below b10 e10; replace i10 := cell_below b10 i10; replace m10 := cell_below b10 m10; replace j10 := cell_below b10 j10; replace g10 := cell_below b10 g10; replace f10 := cell_below b10 f10; replace l10 := cell_below b10 l10; replace k10 := cell_below b10 k10; clear b10
   cases t_13 with
   | false =>
    replace H := let_hid H; obtain ⟨t_14, p10, H⟩ := H; obtain rfl : t_14 = true := p10.symm; replace H := app_hid H; replace H := ite_t H; cases ret_hid H; go_wp2_with fail; go_ret2; exact ⟨rfl, n10.out⟩
   | true =>
    replace H := let_hid H; obtain ⟨t_14, p10, H⟩ := H; obtain rfl : t_14 = false := p10.symm; replace H := app_hid H; replace H := ite_f H; replace H := bind_hid H; obtain ⟨t_21, v10, H⟩ := H; go_wp2_with fail; go_at_call 42; refine (GsL10Fault.C (rates) (mails) ((PCover.Cover.mk x_id x_day x_zone x_grams x_paid x_from_ x_to_ x_leave x_arrive)) A0 c0 A1 c1 _   (Lib.hid (Cells.below M0.out n10.out)) N0 (Lib.hid (Cells.below M1.out n10.out)) N1 v10).mono ?_; rintro y10 z10 ⟨rfl, a10⟩; have t10 := Lib.hid (Below.step n10.out a10); replace h10 := cell_below a10 h10; replace e10 := cell_below a10 e10; replace i10 := cell_below a10 i10; replace m10 := cell_below a10 m10; replace j10 := cell_below a10 j10; replace g10 := cell_below a10 g10; replace f10 := cell_below a10 f10; replace l10 := cell_below a10 l10; replace k10 := cell_below a10 k10; clear a10; cases ret_hid H; go_wp2_with fail; go_ret2; exact ⟨rfl, t10.out⟩
end Go.Proofs.Ytgbcdmlcmnaimaa.GsFaultOf

namespace Go.Proofs.Ytgbcdmlcmnaimaa.GiCanBegin
open Go.RowKit
open Go.Proofs.Ytgbcdmlcmnaimaa.Rowed Go.Proofs.Ytgbcdmlcmnaimaa.Turn Go.Proofs.Ytgbcdmlcmnaimaa.Aid Go.Proofs.Ytgbcdmlcmnaimaa.GoP Go.Proofs.Ytgbcdmlcmnaimaa.GoM

def P (list : (List PMail.Mail)) (from_1 : Int) (minute : Int) : Option (Bool) :=
 Option.bind (GiIsTimetable.P list) fun (t_2 : Bool) =>
 joinK (fun (t_6 : Bool) =>
 joinK (fun (t_10 : Bool) =>
 some t_10) fun jt_10 => iteK t_6 (Option.bind (GiIsMinute.P minute) fun (t_9 : Bool) =>
 appK jt_10 t_9) (appK jt_10 false)) fun jt_6 => iteK t_2 (Option.bind (GiIsPostOffice.P from_1) fun (t_5 : Bool) =>
 appK jt_6 t_5) (appK jt_6 false)

set_option maxRecDepth 100000 in
set_option maxHeartbeats 2000000 in
theorem C (list : (List PMail.Mail)) (from_1 : Int) (minute : Int) (A0 : Option Addr) (c0 : Nat)  (w : World) (M0 : Hid (Cells w 4 A0 list.length (PMail.flat list))) (N0 : Hid (list.length ≤ 9223372036854775807))  {r : Bool} (H : Hid (P list from_1 minute = some r)) :
  Calls Try.prog 51 #[.slice A0 list.length c0, .int .i64 from_1, .int .i64 minute] w (Gives (.bool r) w) := by
 have HB := Lib.hid (Below.refl w.heap.size w); unfold P at H; have N0o := N0.out
 go_enter Try.func51, Try.ntmps51
 replace H := bind_hid H; obtain ⟨t_2, qt_2, H⟩ := H; go_wp2_with fail; go_at_call 47; refine (GiIsTimetable.C (list) A0 c0 _   (Lib.hid (Cells.below M0.out HB.out)) N0 qt_2).mono ?_; rintro e10 wt_2 ⟨rfl, bt_2⟩; have b10 := Lib.hid (Below.step HB.out bt_2); clear bt_2; replace H := join_hid H
 cases t_2 with
 | false =>
  replace H := ite_f H; replace H := app_hid H; replace H := join_hid H; replace H := ite_f H; replace H := app_hid H; obtain rfl := ret_hid H; go_wp2_with fail; go_ret; exact ⟨rfl, b10.out⟩
 | true =>
  replace H := ite_t H; replace H := bind_hid H; obtain ⟨t_5, qt_5, H⟩ := H; go_wp2_with fail; go_at_call 61; refine (GiIsPostOffice.C (from_1)  _    qt_5).mono ?_; rintro d10 wt_5 ⟨rfl, bt_5⟩; have a10 := Lib.hid (Below.step b10.out bt_5); clear bt_5; replace H := app_hid H; replace H := join_hid H
  cases t_5 with
  | false =>
   replace H := ite_f H; replace H := app_hid H; obtain rfl := ret_hid H; go_wp2_with fail; go_ret; exact ⟨rfl, a10.out⟩
  | true =>
   replace H := ite_t H; replace H := bind_hid H; obtain ⟨t_9, qt_9, H⟩ := H; go_wp2_with fail; go_at_call 62; refine (GiIsMinute.C (minute)  _    qt_9).mono ?_; rintro f10 wt_9 ⟨rfl, bt_9⟩; have c10 := Lib.hid (Below.step a10.out bt_9); clear bt_9; replace H := app_hid H; obtain rfl := ret_hid H; go_wp2_with fail; go_ret; exact ⟨rfl, c10.out⟩
end Go.Proofs.Ytgbcdmlcmnaimaa.GiCanBegin

namespace Go.Proofs.Ytgbcdmlcmnaimaa.GiEarliestAt
open Go.RowKit
open Go.Proofs.Ytgbcdmlcmnaimaa.Rowed Go.Proofs.Ytgbcdmlcmnaimaa.Turn Go.Proofs.Ytgbcdmlcmnaimaa.Aid Go.Proofs.Ytgbcdmlcmnaimaa.GoP Go.Proofs.Ytgbcdmlcmnaimaa.GoM

def P (list : (List PMail.Mail)) (from_1 : Int) (minute : Int) (to_3 : Int) : Option (Int × Bool) :=
 Option.bind (GiCanBegin.P list from_1 minute) fun (t_5 : Bool) =>
 letK (!t_5) fun (t_6 : Bool) =>
 joinK (fun (t_11 : Bool) =>
 iteK t_11
 (some (0, false))
 (Option.bind (GiEarliestMinutes.P list from_1 minute) fun (t_17 : PIntA10.IntA10) =>
 unIntA10 t_17 fun (t_17_x0 : Int) (t_17_x1 : Int) (t_17_x2 : Int) (t_17_x3 : Int) (t_17_x4 : Int) (t_17_x5 : Int) (t_17_x6 : Int) (t_17_x7 : Int) (t_17_x8 : Int) (t_17_x9 : Int) =>
 Option.bind (idx [t_17_x0, t_17_x1, t_17_x2, t_17_x3, t_17_x4, t_17_x5, t_17_x6, t_17_x7, t_17_x8, t_17_x9] to_3) fun (yt_19 : Int) =>
 letK (yt_19 == 10000) fun (t_22 : Bool) =>
 iteK t_22
 (some (0, false))
 (some (yt_19, true)))) fun jt_11 => iteK t_6 (appK jt_11 true) (Option.bind (GiIsPostOffice.P to_3) fun (t_9 : Bool) =>
 letK (!t_9) fun (t_10 : Bool) =>
 appK jt_11 t_10)

set_option maxRecDepth 100000 in
set_option maxHeartbeats 2000000 in
theorem C (list : (List PMail.Mail)) (from_1 : Int) (minute : Int) (to_3 : Int) (A0 : Option Addr) (c0 : Nat)  (w : World) (M0 : Hid (Cells w 4 A0 list.length (PMail.flat list))) (N0 : Hid (list.length ≤ 9223372036854775807))  {r0 : Int} {r1 : Bool} (H : Hid (P list from_1 minute to_3 = some (r0, r1))) :
  Calls Try.prog 94 #[.slice A0 list.length c0, .int .i64 from_1, .int .i64 minute, .int .i64 to_3] w (Gives (.tuple #[.int .i64 r0, .bool r1]) w) := by
 have HB := Lib.hid (Below.refl w.heap.size w); unfold P at H; have N0o := N0.out
 go_enter Try.func94, Try.ntmps94
 replace H := bind_hid H; obtain ⟨t_5, qt_5, H⟩ := H; go_wp2_with fail; go_at_call 51; refine (GiCanBegin.C (list) (from_1) (minute) A0 c0 _   (Lib.hid (Cells.below M0.out HB.out)) N0 qt_5).mono ?_; rintro x10 wt_5 ⟨rfl, bt_5⟩; have e10 := Lib.hid (Below.step HB.out bt_5); clear bt_5
 cases t_5 with
 | false =>
  replace H := let_hid H; obtain ⟨t_6, ht_6, H⟩ := H; obtain rfl : t_6 = true := ht_6.symm; replace H := join_hid H; replace H := ite_t H; replace H := app_hid H; replace H := ite_t H; cases ret_hid H; go_wp2_with fail; go_ret2; exact ⟨rfl, e10.out⟩
 | true =>
  replace H := let_hid H; obtain ⟨t_6, ht_6, H⟩ := H; obtain rfl : t_6 = false := ht_6.symm; replace H := join_hid H; replace H := ite_f H; replace H := bind_hid H; obtain ⟨t_9, qt_9, H⟩ := H; go_wp2_with fail; go_at_call 61; refine (GiIsPostOffice.C (to_3)  _    qt_9).mono ?_; rintro z10 wt_9 ⟨rfl, bt_9⟩; have b10 := Lib.hid (Below.step e10.out bt_9); clear bt_9
  cases t_9 with
  | false =>
   replace H := let_hid H; obtain ⟨t_10, a10, H⟩ := H; obtain rfl : t_10 = true := a10.symm; replace H := app_hid H; replace H := ite_t H; cases ret_hid H; go_wp2_with fail; go_ret2; exact ⟨rfl, b10.out⟩
  | true =>
   replace H := let_hid H; obtain ⟨t_10, a10, H⟩ := H; obtain rfl : t_10 = false := a10.symm; replace H := app_hid H; replace H := ite_f H; replace H := bind_hid H; obtain ⟨t_17, m10, H⟩ := H; obtain ⟨q10, r10, h10, l10, s10, t10, i10, n10, o10, p10⟩ := t_17; replace H := unIntA10_hid H; go_wp2_with fail; go_at_call 93; refine (GiEarliestMinutes.C (list) (from_1) (minute) A0 c0 _   (Lib.hid (Cells.below M0.out b10.out)) N0 m10).mono ?_; rintro a11 b11 ⟨rfl, g10⟩; unfold PIntA10.IntA10.val; have c10 := Lib.hid (Below.step b10.out g10); clear g10; replace H := idx_hid H; obtain ⟨f10, v10, j10, k10, d10, H⟩ := H; subst j10
   have w10 : ∀ w, (Instr.index 78 (.agg #[.int .i64 q10, .int .i64 r10, .int .i64 h10, .int .i64 l10, .int .i64 s10, .int .i64 t10, .int .i64 i10, .int .i64 n10, .int .i64 o10, .int .i64 p10]) (.int .i64 (f10 : Int))).run Try.prog w = .ok (.int .i64 v10) w := by
    intro w; have hl := k10; have hg := d10.out; clear d10 H
    rcases f10 with _ | _ | _ | _ | _ | _ | _ | _ | _ | _ | _
    ·
     obtain rfl := Option.some.inj hg; rfl
    ·
     obtain rfl := Option.some.inj hg; rfl
    ·
     obtain rfl := Option.some.inj hg; rfl
    ·
     obtain rfl := Option.some.inj hg; rfl
    ·
     obtain rfl := Option.some.inj hg; rfl
    ·
     obtain rfl := Option.some.inj hg; rfl
    ·
     obtain rfl := Option.some.inj hg; rfl
    ·
     obtain rfl := Option.some.inj hg; rfl
    ·
     obtain rfl := Option.some.inj hg; rfl
    ·
     obtain rfl := Option.some.inj hg; rfl
    ·
     simp at hl; omega
   replace H := let_hid H; obtain ⟨t_22, y10, H⟩ := H
   cases t_22 with
   | false =>
    replace H := ite_f H; cases ret_hid H; go_wp2_with fail; go_ret2; exact ⟨rfl, c10.out⟩
   | true =>
    replace H := ite_t H; cases ret_hid H; go_wp2_with fail; go_ret2; exact ⟨rfl, c10.out⟩
end Go.Proofs.Ytgbcdmlcmnaimaa.GiEarliestAt

namespace Go.Proofs.Ytgbcdmlcmnaimaa.GiLatestMinutes
open Go.RowKit
open Go.Proofs.Ytgbcdmlcmnaimaa.Rowed Go.Proofs.Ytgbcdmlcmnaimaa.Turn Go.Proofs.Ytgbcdmlcmnaimaa.Aid Go.Proofs.Ytgbcdmlcmnaimaa.GoP Go.Proofs.Ytgbcdmlcmnaimaa.GoM

def l0 (list : (List PMail.Mail)) (s : (List Int) × Int) (nx0 bk0 : (List Int) × Int → Option (PIntA10.IntA10)) : Option (PIntA10.IntA10) :=
 unp2 s fun latest_7l0 i_8l0 =>
 letK (decide (0 ≤ i_8l0)) fun (t_13 : Bool) =>
 iteK t_13
 (Option.bind (idx list i_8l0) fun (yt_16 : PMail.Mail) =>
 unMail yt_16 fun (t_16_leave : Int) (t_16_from_ : Int) (t_16_to_ : Int) (t_16_arrive : Int) =>
 Option.bind (idx latest_7l0 t_16_to_) fun (yt_24 : Int) =>
 letK (decide (t_16_arrive ≤ yt_24)) fun (t_26 : Bool) =>
 iteK t_26
 (Option.bind (idx latest_7l0 t_16_from_) fun (yt_31 : Int) =>
 letK (max yt_31 t_16_leave) fun (t_35 : Int) =>
 Option.bind (idx latest_7l0 t_16_from_) fun (yt_36 : Int) =>
 letK (latest_7l0.set (t_16_from_).toNat t_35) fun (l37_37 : (List Int)) =>
 letK (IntKind.i64.wrap (i_8l0 - 1)) fun (t_39 : Int) =>
 appK nx0 (l37_37, t_39))
 (letK (IntKind.i64.wrap (i_8l0 - 1)) fun (t_39 : Int) =>
 appK nx0 (latest_7l0, t_39)))
 (appK bk0 (latest_7l0, i_8l0))

def e0  (s : (List Int) × Int) : Option (PIntA10.IntA10) :=
 unp2 s fun latest_7l0 i_8l0 =>
 some (PIntA10.IntA10.mk (GoA.nth latest_7l0 0) (GoA.nth latest_7l0 1) (GoA.nth latest_7l0 2) (GoA.nth latest_7l0 3) (GoA.nth latest_7l0 4) (GoA.nth latest_7l0 5) (GoA.nth latest_7l0 6) (GoA.nth latest_7l0 7) (GoA.nth latest_7l0 8) (GoA.nth latest_7l0 9))

def P (fuel : Nat) (list : (List PMail.Mail)) (to_1 : Int) (by_2 : Int) : Option (PIntA10.IntA10) :=
 Option.bind (GiFilledWith.P (-1)) fun (t_1 : PIntA10.IntA10) =>
 unIntA10 t_1 fun (t_1_x0 : Int) (t_1_x1 : Int) (t_1_x2 : Int) (t_1_x3 : Int) (t_1_x4 : Int) (t_1_x5 : Int) (t_1_x6 : Int) (t_1_x7 : Int) (t_1_x8 : Int) (t_1_x9 : Int) =>
 letK ([t_1_x0, t_1_x1, t_1_x2, t_1_x3, t_1_x4, t_1_x5, t_1_x6, t_1_x7, t_1_x8, t_1_x9]) fun (vlatest_2 : (List Int)) =>
 Option.bind (idx vlatest_2 to_1) fun (yt_6 : Int) =>
 letK (vlatest_2.set (to_1).toNat by_2) fun (l7_7 : (List Int)) =>
 letK (IntKind.i64.wrap ((list.length : Int) - 1)) fun (t_10 : Int) =>
 loopK (l0 list) fuel (l7_7, t_10) (e0 )

set_option maxRecDepth 100000 in
set_option maxHeartbeats 2000000 in
theorem C (fuel : Nat) (list : (List PMail.Mail)) (to_1 : Int) (by_2 : Int) (A0 : Option Addr) (c0 : Nat)  (w : World) (M0 : Hid (Cells w 4 A0 list.length (PMail.flat list))) (N0 : Hid (list.length ≤ 9223372036854775807))  {r : PIntA10.IntA10} (H : Hid (P fuel list to_1 by_2 = some r)) :
  Calls Try.prog 54 #[.slice A0 list.length c0, .int .i64 to_1, .int .i64 by_2] w (Gives ((PIntA10.IntA10.val r)) w) := by
 have HB := Lib.hid (Below.refl w.heap.size w); unfold P at H; have N0o := N0.out
 go_enter Try.func54, Try.ntmps54
 obtain ⟨l10, k10⟩ : ∃ x, w.alloc (.cells #[.int .i64 0, .int .i64 0, .int .i64 0, .int .i64 0, .int .i64 0, .int .i64 0, .int .i64 0, .int .i64 0, .int .i64 0, .int .i64 0] 78) = x := ⟨_, rfl⟩; have w14 : Below w.heap.size w l10 := (by rw [← k10]; exact (Below.refl _ _).alloc (Nat.le_refl _) _); have i17 := Lib.hid (Below.step HB.out w14); clear w14; have l11 : l10.cell? ⟨w.heap.size, 0, none⟩ = some (.int .i64 0) := (by rw [← k10]; exact box_new _ _ _ 0 _ rfl); have f12 : l10.cell? ⟨w.heap.size, 1, none⟩ = some (.int .i64 0) := (by rw [← k10]; exact box_new _ _ _ 1 _ rfl); have t12 : l10.cell? ⟨w.heap.size, 2, none⟩ = some (.int .i64 0) := (by rw [← k10]; exact box_new _ _ _ 2 _ rfl); have j12 : l10.cell? ⟨w.heap.size, 3, none⟩ = some (.int .i64 0) := (by rw [← k10]; exact box_new _ _ _ 3 _ rfl); have x11 : l10.cell? ⟨w.heap.size, 4, none⟩ = some (.int .i64 0) := (by rw [← k10]; exact box_new _ _ _ 4 _ rfl); have w11 : l10.cell? ⟨w.heap.size, 5, none⟩ = some (.int .i64 0) := (by rw [← k10]; exact box_new _ _ _ 5 _ rfl); have g12 : l10.cell? ⟨w.heap.size, 6, none⟩ = some (.int .i64 0) := (by rw [← k10]; exact box_new _ _ _ 6 _ rfl); have a12 : l10.cell? ⟨w.heap.size, 7, none⟩ = some (.int .i64 0) := (by rw [← k10]; exact box_new _ _ _ 7 _ rfl); have z11 : l10.cell? ⟨w.heap.size, 8, none⟩ = some (.int .i64 0) := (by rw [← k10]; exact box_new _ _ _ 8 _ rfl); have y11 : l10.cell? ⟨w.heap.size, 9, none⟩ = some (.int .i64 0) := (by rw [← k10]; exact box_new _ _ _ 9 _ rfl); have Ot_0 : Hid (l10.ownsRow w.heap.size 78 10 (.slice (some ⟨w.heap.size, 0, none⟩) 1 1) 1 [.int .i64 0, .int .i64 0, .int .i64 0, .int .i64 0, .int .i64 0, .int .i64 0, .int .i64 0, .int .i64 0, .int .i64 0, .int .i64 0]) := Lib.hid (by rw [← k10]; exact own_laid (n := 1) HB.out.size rfl rfl (by unfold maxLen; omega)); replace H := bind_hid H; obtain ⟨t_1, qt_1, H⟩ := H; obtain ⟨h13, f13, a13, x12, j13, e13, c13, i13, g13, y12⟩ := t_1; replace H := unIntA10_hid H; go_wp2_with fail; go_at_call 98; refine (GiFilledWith.C ((-1))  _    qt_1).mono ?_; rintro v19 wt_1 ⟨rfl, bt_1⟩; unfold PIntA10.IntA10.val; have h15 := Lib.hid (Below.step i17.out bt_1); replace l11 := cell_below bt_1 l11; replace f12 := cell_below bt_1 f12; replace t12 := cell_below bt_1 t12; replace j12 := cell_below bt_1 j12; replace x11 := cell_below bt_1 x11; replace w11 := cell_below bt_1 w11; replace g12 := cell_below bt_1 g12; replace a12 := cell_below bt_1 a12; replace z11 := cell_below bt_1 z11; replace y11 := cell_below bt_1 y11; replace Ot_0 := Lib.hid (own_below Ot_0.out bt_1); clear bt_1; replace H := let_hid H; obtain ⟨b13, v11, H⟩ := H; obtain ⟨b12, n13⟩ : ∃ x, wt_1.alloc (.cells #[.int .i64 h13, .int .i64 f13, .int .i64 a13, .int .i64 x12, .int .i64 j13, .int .i64 e13, .int .i64 c13, .int .i64 i13, .int .i64 g13, .int .i64 y12] 78) = x := ⟨_, rfl⟩; have i10 : Below wt_1.heap.size wt_1 b12 := (by rw [← n13]; exact (Below.refl _ _).alloc (Nat.le_refl _) _); have a15 := h15.out.size; have q11 : b13.length = 10 := (by rw [← v11]; rfl)
 have o11 : Hid (b12.ownsRow w.heap.size 78 1 (.slice (some ⟨wt_1.heap.size, 0, none⟩) 10 10) 10 (HelpInt.iv b13)) := by
  rw [← n13, ← v11]; have e_ : ([.int .i64 h13, .int .i64 f13, .int .i64 a13, .int .i64 x12, .int .i64 j13, .int .i64 e13, .int .i64 c13, .int .i64 i13, .int .i64 g13, .int .i64 y12] : List Value) = HelpInt.iv [h13, f13, a13, x12, j13, e13, c13, i13, g13, y12] := rfl; exact Lib.hid (own_laid (n := 10) a15 e_ rfl (by unfold maxLen; omega))
 clear a15; have n19 := Lib.hid v11; clear v11; replace q11 := Lib.hid q11; have j10 := Lib.hid (apart_box l11); have y13 := Lib.hid (Below.step h15.out i10); have l14 := cell_below i10 l11; have s14 := cell_below i10 f12; have d15 := cell_below i10 t12; have k14 := cell_below i10 j12; have o13 := cell_below i10 x11; have i14 := cell_below i10 w11; have q14 := cell_below i10 g12; have f15 := cell_below i10 a12; have p13 := cell_below i10 z11; have d14 := cell_below i10 y11; replace Ot_0 := Lib.hid (own_below Ot_0.out i10); clear i10; replace H := idx_hid H; obtain ⟨nt_6, yt_6, et_6, lt_6, gt_6, H⟩ := H; subst et_6; have x15 := q11.out; obtain ⟨j20, r17, zt_6, At_6, r13, i15⟩ := HelpInt.Ints.at_ (own_cells o11.out) (k := nt_6) (by omega); obtain rfl := Option.some.inj (gt_6.out.symm.trans r13); simp only [Option.some.injEq, Addr.mk.injEq] at At_6; obtain ⟨rfl, rfl, _⟩ := At_6; clear r13; simp only [Nat.zero_add] at i15; have s17 : (0 : Int) ≤ (nt_6 : Int) := (by omega); have v17 : (nt_6 : Int) < ((10 : Nat) : Int) := (by omega); have q18 : ((nt_6 : Int)).toNat = nt_6 := (by omega); clear x15; have a18 : nt_6 < 10 := (by have h_ := lt_6; have hn_ := q11.out; omega); have e18 : (nt_6 : Int) < (10 : Int) := (by omega); replace H := let_hid H; obtain ⟨l7_7, r11, H⟩ := H
 try simp only [Int.toNat_natCast] at r11
 obtain ⟨h14, x13⟩ : ∃ x, (b12).setCell ⟨wt_1.heap.size, nt_6, none⟩ (.int .i64 by_2) = x := ⟨_, rfl⟩; have x16 := o11.out.frozenAt (nt_6); have d13 := Lib.hid (own_stores [(nt_6, .int .i64 by_2)] o11.out); have a16 : Hid (l7_7.length = 10) := Lib.hid (by rw [← r11, List.length_set]; exact q11.out); have c17 : Hid (h14.ownsRow w.heap.size 78 1 (.slice (some ⟨wt_1.heap.size, 0, none⟩) 10 10) 10 (HelpInt.iv l7_7)) := Lib.hid (by have e_ : ([(nt_6, .int .i64 by_2)] : List (Nat × Value)).foldl (fun xs p => xs.set p.1 p.2) (HelpInt.iv b13) = (HelpInt.iv l7_7) := (by rw [← r11]; first | done | simp [HelpInt.iv, List.map_set]); rw [← x13, ← e_]; exact d13.out.1); have h10 : Hid (b12.grownBy h14 (Value.slice (some ⟨wt_1.heap.size, 0, none⟩) 10 10).ownBlock) := Lib.hid (by rw [← x13]; exact d13.out.2); have g17 := Lib.hid (y13.out.grown h10.out y13.out.size (fun q hq => (o11.out.lt q hq).1)); have e20 := Lib.hid r11; clear r11 d13; have t11 := cell_other l14 h10.out j10.out; have q12 := cell_other s14 h10.out j10.out; have p12 := cell_other d15 h10.out j10.out; have c12 := cell_other k14 h10.out j10.out; have d12 := cell_other o13 h10.out j10.out; have s12 := cell_other i14 h10.out j10.out; have e12 := cell_other q14 h10.out j10.out; have h12 := cell_other f15 h10.out j10.out; have i12 := cell_other p13 h10.out j10.out; have m12 := cell_other d14 h10.out j10.out; replace Ot_0 := Lib.hid (own_other Ot_0.out h10.out j10.out); clear o11 h10; replace H := let_hid H; obtain ⟨t_10, h17, H⟩ := H
 try have o16 : (list.length : Int) - 1 = t_10 := by rw [← h17]; exact (IntWalk.i64_in _ (by omega)).symm
 try have h19 : IntKind.i64.wrap t_10 = t_10 := by rw [← o16]; exact IntWalk.i64_in _ (by omega)
 go_wp2_with fail; clear l11 f12 t12 j12 x11 w11 g12 a12 z11 y11 x16 l14 s14 d15 k14 o13 i14 q14 f15 p13 d14 i15; go_wp2_with fail; go_loopg [8] (fuel) (fun m_ v8_ wr => ∃ (a10 : (List Int)) (l13 : Int), v8_ = .int .i64 l13 ∧ Hid (loopK (l0 list) m_ (a10, l13) (e0 ) = some r) ∧ Hid (Below w.heap.size w wr) ∧ wr.cell? ⟨w.heap.size, 0, none⟩ = some (.int .i64 0) ∧ wr.cell? ⟨w.heap.size, 1, none⟩ = some (.int .i64 0) ∧ wr.cell? ⟨w.heap.size, 2, none⟩ = some (.int .i64 0) ∧ wr.cell? ⟨w.heap.size, 3, none⟩ = some (.int .i64 0) ∧ wr.cell? ⟨w.heap.size, 4, none⟩ = some (.int .i64 0) ∧ wr.cell? ⟨w.heap.size, 5, none⟩ = some (.int .i64 0) ∧ wr.cell? ⟨w.heap.size, 6, none⟩ = some (.int .i64 0) ∧ wr.cell? ⟨w.heap.size, 7, none⟩ = some (.int .i64 0) ∧ wr.cell? ⟨w.heap.size, 8, none⟩ = some (.int .i64 0) ∧ wr.cell? ⟨w.heap.size, 9, none⟩ = some (.int .i64 0) ∧ Hid (wr.ownsRow w.heap.size 78 10 (.slice (some ⟨w.heap.size, 0, none⟩) 1 1) 1 [.int .i64 0, .int .i64 0, .int .i64 0, .int .i64 0, .int .i64 0, .int .i64 0, .int .i64 0, .int .i64 0, .int .i64 0, .int .i64 0]) ∧ Hid (wr.ownsRow w.heap.size 78 1 (.slice (some ⟨wt_1.heap.size, 0, none⟩) 10 10) 10 (HelpInt.iv a10)) ∧ Hid (a10.length = 10) ∧ Hid (Apart (some ⟨wt_1.heap.size, 0, none⟩) (some ⟨w.heap.size, 0, none⟩)))
 case atStart => exact ⟨_, _, rfl, H, g17, t11, q12, p12, c12, d12, s12, e12, h12, i12, m12, Ot_0, c17, Lib.hid (a16.out), Lib.hid j10.out⟩
 case round =>
  obtain ⟨a10, l13, rfl, H, j11, t11, q12, p12, c12, d12, s12, e12, h12, i12, m12, Ot_0, b10, e10, f10⟩ := hrel; rename World => wr0
  cases gk with
  | zero => exact (loop_zero H).elim
  | succ m0 =>
   replace H := loop_succ H; unfold l0 at H; replace H := unp2_hid H; replace H := let_hid H; obtain ⟨t_13, s16, H⟩ := H
   cases t_13 with
   | false =>
    replace H := ite_f H; replace H := app_hid H; unfold e0 at H; replace H := unp2_hid H; have c19 : wr0.cell? ⟨wt_1.heap.size, 0, none⟩ = some (.int .i64 (GoA.nth a10 0)) := GoA.row_at b10.out e10.out 0 (by omega); have s19 : wr0.cell? ⟨wt_1.heap.size, 1, none⟩ = some (.int .i64 (GoA.nth a10 1)) := GoA.row_at b10.out e10.out 1 (by omega); have m18 : wr0.cell? ⟨wt_1.heap.size, 2, none⟩ = some (.int .i64 (GoA.nth a10 2)) := GoA.row_at b10.out e10.out 2 (by omega); have p18 : wr0.cell? ⟨wt_1.heap.size, 3, none⟩ = some (.int .i64 (GoA.nth a10 3)) := GoA.row_at b10.out e10.out 3 (by omega); have c18 : wr0.cell? ⟨wt_1.heap.size, 4, none⟩ = some (.int .i64 (GoA.nth a10 4)) := GoA.row_at b10.out e10.out 4 (by omega); have r19 : wr0.cell? ⟨wt_1.heap.size, 5, none⟩ = some (.int .i64 (GoA.nth a10 5)) := GoA.row_at b10.out e10.out 5 (by omega); have v18 : wr0.cell? ⟨wt_1.heap.size, 6, none⟩ = some (.int .i64 (GoA.nth a10 6)) := GoA.row_at b10.out e10.out 6 (by omega); have k19 : wr0.cell? ⟨wt_1.heap.size, 7, none⟩ = some (.int .i64 (GoA.nth a10 7)) := GoA.row_at b10.out e10.out 7 (by omega); have b19 : wr0.cell? ⟨wt_1.heap.size, 8, none⟩ = some (.int .i64 (GoA.nth a10 8)) := GoA.row_at b10.out e10.out 8 (by omega); have x18 : wr0.cell? ⟨wt_1.heap.size, 9, none⟩ = some (.int .i64 (GoA.nth a10 9)) := GoA.row_at b10.out e10.out 9 (by omega); obtain ⟨m10, b15⟩ : ∃ x, ((((((((((wr0).setCell ⟨w.heap.size, 0, none⟩ (.int .i64 (GoA.nth a10 0))).setCell ⟨w.heap.size, 1, none⟩ (.int .i64 (GoA.nth a10 1))).setCell ⟨w.heap.size, 2, none⟩ (.int .i64 (GoA.nth a10 2))).setCell ⟨w.heap.size, 3, none⟩ (.int .i64 (GoA.nth a10 3))).setCell ⟨w.heap.size, 4, none⟩ (.int .i64 (GoA.nth a10 4))).setCell ⟨w.heap.size, 5, none⟩ (.int .i64 (GoA.nth a10 5))).setCell ⟨w.heap.size, 6, none⟩ (.int .i64 (GoA.nth a10 6))).setCell ⟨w.heap.size, 7, none⟩ (.int .i64 (GoA.nth a10 7))).setCell ⟨w.heap.size, 8, none⟩ (.int .i64 (GoA.nth a10 8))).setCell ⟨w.heap.size, 9, none⟩ (.int .i64 (GoA.nth a10 9)) = x := ⟨_, rfl⟩; have h18 := Ot_0.out.frozenAt 0; have t19 := Ot_0.out.frozenAt 1; have g19 := Ot_0.out.frozenAt 2; have x17 := Ot_0.out.frozenAt 3; have l20 := Ot_0.out.frozenAt 4; have d20 := Ot_0.out.frozenAt 5; have d18 := Ot_0.out.frozenAt 6; have i19 := Ot_0.out.frozenAt 7; have f19 := Ot_0.out.frozenAt 8; have a19 := Ot_0.out.frozenAt 9; have z12 := Lib.hid (own_stores [(0, .int .i64 (GoA.nth a10 0)), (1, .int .i64 (GoA.nth a10 1)), (2, .int .i64 (GoA.nth a10 2)), (3, .int .i64 (GoA.nth a10 3)), (4, .int .i64 (GoA.nth a10 4)), (5, .int .i64 (GoA.nth a10 5)), (6, .int .i64 (GoA.nth a10 6)), (7, .int .i64 (GoA.nth a10 7)), (8, .int .i64 (GoA.nth a10 8)), (9, .int .i64 (GoA.nth a10 9))] Ot_0.out); have d11 : Hid (m10.ownsRow w.heap.size 78 10 (.slice (some ⟨w.heap.size, 0, none⟩) 1 1) 1 [.int .i64 (GoA.nth a10 0), .int .i64 (GoA.nth a10 1), .int .i64 (GoA.nth a10 2), .int .i64 (GoA.nth a10 3), .int .i64 (GoA.nth a10 4), .int .i64 (GoA.nth a10 5), .int .i64 (GoA.nth a10 6), .int .i64 (GoA.nth a10 7), .int .i64 (GoA.nth a10 8), .int .i64 (GoA.nth a10 9)]) := Lib.hid (by rw [← b15]; exact z12.out.1); have k13 : Hid (wr0.grownBy m10 (Value.slice (some ⟨w.heap.size, 0, none⟩) 1 1).ownBlock) := Lib.hid (by rw [← b15]; exact z12.out.2); have d16 := Lib.hid (j11.out.grown k13.out j11.out.size (fun q hq => (Ot_0.out.lt q hq).1)); clear z12; replace b10 := Lib.hid (own_other b10.out k13.out (Apart.symm f10.out)); clear Ot_0 k13; have l16 : m10.cell? ⟨w.heap.size, 0, none⟩ = some (.int .i64 (GoA.nth a10 0)) := d11.out.cells rfl 0 _ rfl; have v15 : m10.cell? ⟨w.heap.size, 1, none⟩ = some (.int .i64 (GoA.nth a10 1)) := d11.out.cells rfl 1 _ rfl; have b16 : m10.cell? ⟨w.heap.size, 2, none⟩ = some (.int .i64 (GoA.nth a10 2)) := d11.out.cells rfl 2 _ rfl; have r16 : m10.cell? ⟨w.heap.size, 3, none⟩ = some (.int .i64 (GoA.nth a10 3)) := d11.out.cells rfl 3 _ rfl; have q16 : m10.cell? ⟨w.heap.size, 4, none⟩ = some (.int .i64 (GoA.nth a10 4)) := d11.out.cells rfl 4 _ rfl
    have n17 : m10.cell? ⟨w.heap.size, 5, none⟩ = some (.int .i64 (GoA.nth a10 5)) := d11.out.cells rfl 5 _ rfl; have k16 : m10.cell? ⟨w.heap.size, 6, none⟩ = some (.int .i64 (GoA.nth a10 6)) := d11.out.cells rfl 6 _ rfl; have t16 : m10.cell? ⟨w.heap.size, 7, none⟩ = some (.int .i64 (GoA.nth a10 7)) := d11.out.cells rfl 7 _ rfl; have i16 : m10.cell? ⟨w.heap.size, 8, none⟩ = some (.int .i64 (GoA.nth a10 8)) := d11.out.cells rfl 8 _ rfl; have t15 : m10.cell? ⟨w.heap.size, 9, none⟩ = some (.int .i64 (GoA.nth a10 9)) := d11.out.cells rfl 9 _ rfl; cases ret_hid H; go_wp2_with fail
    (try simp only [Exit.inBlock, Exit.then])
    refine bodyPost_ret (v := .agg #[.int .i64 (GoA.nth a10 0), .int .i64 (GoA.nth a10 1), .int .i64 (GoA.nth a10 2), .int .i64 (GoA.nth a10 3), .int .i64 (GoA.nth a10 4), .int .i64 (GoA.nth a10 5), .int .i64 (GoA.nth a10 6), .int .i64 (GoA.nth a10 7), .int .i64 (GoA.nth a10 8), .int .i64 (GoA.nth a10 9)]) ?hr_ ?hd_ ?_
    case hd_ => rfl
    case hr_ => simp [results, Try.results54, l16, v15, b16, r16, q16, n17, k16, t16, i16, t15, go_sem]
    exact ⟨rfl, d16.out⟩
   | true =>
    replace H := ite_t H; replace H := idx_hid H; obtain ⟨k11, j16, g16, o17, y16, H⟩ := H; subst g16; have g18 : 0 ≤ k11 := (by have := of_decide_eq_true s16; omega); obtain ⟨z14, l15, j14, w13⟩ := j16; replace H := unMail_hid H; obtain ⟨n18, t18, x19, h16, c15, s11, n12, l12, o12⟩ := OMail.at_ M0.out o17; obtain rfl := Option.some.inj (y16.out.symm.trans c15); subst h16; have r12 := cell_lt s11; replace s11 := cell_below j11.out s11; replace n12 := cell_below j11.out n12; replace l12 := cell_below j11.out l12; replace o12 := cell_below j11.out o12; clear c15; have a20 : (0 : Int) ≤ (k11 : Int) := (by omega); have l19 : (k11 : Int) < ((list.length : Nat) : Int) := (by omega); have k18 : ((k11 : Int)).toNat = k11 := (by omega); obtain ⟨n11, p11⟩ : ∃ x, wr0.alloc (.cells #[.int .i64 z14, .int .i64 l15, .int .i64 j14, .int .i64 w13] 77) = x := ⟨_, rfl⟩; have d10 : Below wr0.heap.size wr0 n11 := (by rw [← p11]; exact (Below.refl _ _).alloc (Nat.le_refl _) _); have k12 := Lib.hid (apart_fresh b10.out); have k20 := Lib.hid (apart_box t11); have z16 := Lib.hid (Below.step j11.out d10); have v10 := cell_below d10 t11; have w10 := cell_below d10 q12; have t10 := cell_below d10 p12; have r10 := cell_below d10 c12; have n10 := cell_below d10 d12; have q10 := cell_below d10 s12; have s10 := cell_below d10 e12; have o10 := cell_below d10 h12; have x10 := cell_below d10 i12; have p10 := cell_below d10 m12; have h11 := cell_below d10 s11; have a11 := cell_below d10 n12; have f11 := cell_below d10 l12; have e11 := cell_below d10 o12; replace b10 := Lib.hid (own_below b10.out d10); replace Ot_0 := Lib.hid (own_below Ot_0.out d10); clear d10; have y10 : n11.cell? ⟨wr0.heap.size, 0, none⟩ = some (.int .i64 z14) := (by rw [← p11]; exact box_new _ _ _ 0 _ rfl); have c11 : n11.cell? ⟨wr0.heap.size, 1, none⟩ = some (.int .i64 l15) := (by rw [← p11]; exact box_new _ _ _ 1 _ rfl); have b11 : n11.cell? ⟨wr0.heap.size, 2, none⟩ = some (.int .i64 j14) := (by rw [← p11]; exact box_new _ _ _ 2 _ rfl); have g11 : n11.cell? ⟨wr0.heap.size, 3, none⟩ = some (.int .i64 w13) := (by rw [← p11]; exact box_new _ _ _ 3 _ rfl); go_wp2_with fail; clear t11 q12 p12 c12 d12 s12 e12 h12 i12 m12 s11 n12 l12 o12; have c14 := Lib.hid v10; replace v10 := cell_regrown v10; have k15 := Lib.hid w10; replace w10 := cell_regrown w10; have a14 := Lib.hid t10; replace t10 := cell_regrown t10; have g14 := Lib.hid r10; replace r10 := cell_regrown r10; have t13 := Lib.hid n10; replace n10 := cell_regrown n10; have p15 := Lib.hid q10; replace q10 := cell_regrown q10; have v14 := Lib.hid s10; replace s10 := cell_regrown s10; have s13 := Lib.hid o10; replace o10 := cell_regrown o10; have m15 := Lib.hid x10; replace x10 := cell_regrown x10; have o15 := Lib.hid p10; replace p10 := cell_regrown p10; have x14 := Lib.hid h11; replace h11 := cell_regrown h11; have t14 := Lib.hid a11; replace a11 := cell_regrown a11; have f14 := Lib.hid f11; replace f11 := cell_regrown f11; have n14 := Lib.hid e11; replace e11 := cell_regrown e11; have b14 := Lib.hid y10; replace y10 := cell_regrown y10; have n15 := Lib.hid c11; replace c11 := cell_regrown c11; have r14 := Lib.hid b11; replace b11 := cell_regrown b11; have m14 := Lib.hid g11; replace g11 := cell_regrown g11; replace H := idx_hid H; obtain ⟨i11, j19, f16, f17, z15, H⟩ := H; subst f16; have m16 := e10.out; obtain ⟨s18, w17, o19, e15, y14, z10⟩ := HelpInt.Ints.at_ (own_cells b10.out) (k := i11) (by omega); obtain rfl := Option.some.inj (z15.out.symm.trans y14); simp only [Option.some.injEq, Addr.mk.injEq] at e15; obtain ⟨rfl, rfl, _⟩ := e15; clear y14; simp only [Nat.zero_add] at z10; have b18 : (0 : Int) ≤ (i11 : Int) := (by omega); have z17 : (i11 : Int) < ((10 : Nat) : Int) := (by omega); have o18 : ((i11 : Int)).toNat = i11 := (by omega); clear m16; have m13 := Lib.hid z10; replace z10 := cell_regrown z10; have l18 : i11 < 10 := (by have h_ := f17; have hn_ := e10.out; omega); have p19 : (i11 : Int) < (10 : Int) := (by omega)
    replace H := let_hid H; obtain ⟨t_26, q17, H⟩ := H; refine wp_region_quiet_below (by kernel_rfl) (by kernel_rfl) ?_
    repeat (go_big_quiet_step (fail))
    refine wpQuiet_nil ?_; intro Y7 hY7; replace hY7 := below_class hY7; replace v10 := c14.out; clear c14; replace w10 := k15.out; clear k15; replace t10 := a14.out; clear a14; replace r10 := g14.out; clear g14; replace n10 := t13.out; clear t13; replace q10 := p15.out; clear p15; replace s10 := v14.out; clear v14; replace o10 := s13.out; clear s13; replace x10 := m15.out; clear m15; replace p10 := o15.out; clear o15; replace h11 := x14.out; clear x14; replace a11 := t14.out; clear t14; replace f11 := f14.out; clear f14; replace e11 := n14.out; clear n14; replace y10 := b14.out; clear b14; replace c11 := n15.out; clear n15; replace b11 := r14.out; clear r14; replace g11 := m14.out; clear m14; replace z10 := m13.out; clear m13; have HBY7 := Lib.hid (Below.step z16.out hY7); replace v10 := cell_below hY7 v10; replace w10 := cell_below hY7 w10; replace t10 := cell_below hY7 t10; replace r10 := cell_below hY7 r10; replace n10 := cell_below hY7 n10; replace q10 := cell_below hY7 q10; replace s10 := cell_below hY7 s10; replace o10 := cell_below hY7 o10; replace x10 := cell_below hY7 x10; replace p10 := cell_below hY7 p10; replace h11 := cell_below hY7 h11; replace a11 := cell_below hY7 a11; replace f11 := cell_below hY7 f11; replace e11 := cell_below hY7 e11; replace y10 := cell_below hY7 y10; replace c11 := cell_below hY7 c11; replace b11 := cell_below hY7 b11; replace g11 := cell_below hY7 g11; replace z10 := cell_below hY7 z10; replace b10 := Lib.hid (own_below b10.out hY7); replace Ot_0 := Lib.hid (own_below Ot_0.out hY7); clear hY7
    cases t_26 with
    | false =>
     replace H := ite_f H; replace H := let_hid H; obtain ⟨t_39, p16, H⟩ := H; replace H := app_hid H; go_wp2_with fail
     go_roundg m0
     case measure => omega
     case rel => exact ⟨_, _, rfl, H, HBY7, v10, w10, t10, r10, n10, q10, s10, o10, x10, p10, Ot_0, b10, Lib.hid (e10.out), Lib.hid f10.out⟩
    | true =>
     replace H := ite_t H; go_wp2_with fail; obtain ⟨Z8, hZ8⟩ : ∃ x, Y7.drew = x := ⟨_, rfl⟩; have bd8 : Below Y7.heap.size Y7 Z8 := (by rw [← hZ8]; exact (Below.refl _ _).drew); have HBZ8 := Lib.hid (Below.step HBY7.out bd8); replace v10 := cell_below bd8 v10; replace w10 := cell_below bd8 w10; replace t10 := cell_below bd8 t10; replace r10 := cell_below bd8 r10; replace n10 := cell_below bd8 n10; replace q10 := cell_below bd8 q10; replace s10 := cell_below bd8 s10; replace o10 := cell_below bd8 o10; replace x10 := cell_below bd8 x10; replace p10 := cell_below bd8 p10; replace h11 := cell_below bd8 h11; replace a11 := cell_below bd8 a11; replace f11 := cell_below bd8 f11; replace e11 := cell_below bd8 e11; replace y10 := cell_below bd8 y10; replace c11 := cell_below bd8 c11; replace b11 := cell_below bd8 b11; replace g11 := cell_below bd8 g11; replace z10 := cell_below bd8 z10; replace b10 := Lib.hid (own_below b10.out bd8); replace Ot_0 := Lib.hid (own_below Ot_0.out bd8); clear bd8; replace H := idx_hid H; obtain ⟨g10, e19, y15, q13, e14, H⟩ := H; subst y15; have a17 := e10.out; obtain ⟨q19, f18, y17, p14, j15, g15⟩ := HelpInt.Ints.at_ (own_cells b10.out) (k := g10) (by omega); obtain rfl := Option.some.inj (e14.out.symm.trans j15); simp only [Option.some.injEq, Addr.mk.injEq] at p14; obtain ⟨rfl, rfl, _⟩ := p14; clear j15; simp only [Nat.zero_add] at g15; have m19 : (0 : Int) ≤ (g10 : Int) := (by omega); have i20 : (g10 : Int) < ((10 : Nat) : Int) := (by omega); have w18 : ((g10 : Int)).toNat = g10 := (by omega); clear a17; have r18 : g10 < 10 := (by have h_ := q13; have hn_ := e10.out; omega); have z18 : (g10 : Int) < (10 : Int) := (by omega); replace H := let_hid H; obtain ⟨t_35, b20, H⟩ := H; replace H := idx_hid H; obtain ⟨d17, d19, b17, e17, o14, H⟩ := H; obtain rfl : g10 = d17 := (by omega); clear b17; obtain rfl := Option.some.inj (e14.out.symm.trans o14.out); clear o14 e17; have y19 : g10 < 10 := (by have h_ := q13; have hn_ := e10.out; omega); have y18 : (g10 : Int) < (10 : Int) := (by omega); refine wp_region_still_tail 10 (by kernel_rfl) (by kernel_rfl) ?_; simp only [List.take_succ_cons, List.take_zero, List.drop_succ_cons, List.drop_zero]; change wpStill _ _ Y7.drew _ _ _; rw [hZ8]
     repeat still_step
     refine wpStill_nil ?_; change wpList _ _ _ _ _ Y7.drew; rw [hZ8]; clear hZ8; replace H := let_hid H; obtain ⟨w12, m11, H⟩ := H
     try simp only [Int.toNat_natCast] at m11
     obtain ⟨z13, v13⟩ : ∃ x, (Z8).setCell ⟨wt_1.heap.size, g10, none⟩ (.int .i64 t_35) = x := ⟨_, rfl⟩; have j17 := b10.out.frozenAt (g10); have v12 := Lib.hid (own_stores [(g10, .int .i64 t_35)] b10.out); have v16 : Hid (w12.length = 10) := Lib.hid (by rw [← m11, List.length_set]; exact e10.out); have l17 : Hid (z13.ownsRow w.heap.size 78 1 (.slice (some ⟨wt_1.heap.size, 0, none⟩) 10 10) 10 (HelpInt.iv w12)) := Lib.hid (by have e_ : ([(g10, .int .i64 t_35)] : List (Nat × Value)).foldl (fun xs p => xs.set p.1 p.2) (HelpInt.iv a10) = (HelpInt.iv w12) := (by rw [← m11]; first | done | simp [HelpInt.iv, List.map_set]); rw [← v13, ← e_]; exact v12.out.1); have c10 : Hid (Z8.grownBy z13 (Value.slice (some ⟨wt_1.heap.size, 0, none⟩) 10 10).ownBlock) := Lib.hid (by rw [← v13]; exact v12.out.2); have e16 := Lib.hid (HBZ8.out.grown c10.out HBZ8.out.size (fun q hq => (b10.out.lt q hq).1)); have g20 := Lib.hid m11; clear m11 v12; have k17 := cell_other v10 c10.out f10.out; have w16 := cell_other w10 c10.out f10.out; have r15 := cell_other t10 c10.out f10.out; have n16 := cell_other r10 c10.out f10.out; have m17 := cell_other n10 c10.out f10.out; have w15 := cell_other q10 c10.out f10.out; have s15 := cell_other s10 c10.out f10.out; have p17 := cell_other o10 c10.out f10.out; have q15 := cell_other x10 c10.out f10.out; have c16 := cell_other p10 c10.out f10.out; have t17 := cell_other h11 c10.out (apart_old b10.out r12); have w19 := cell_other a11 c10.out (apart_old b10.out r12); have j18 := cell_other f11 c10.out (apart_old b10.out r12); have h20 := cell_other e11 c10.out (apart_old b10.out r12); have i18 := cell_other y10 c10.out (Apart.symm k12.out); have f20 := cell_other c11 c10.out (Apart.symm k12.out); have z19 := cell_other b11 c10.out (Apart.symm k12.out); have c20 := cell_other g11 c10.out (Apart.symm k12.out); replace Ot_0 := Lib.hid (own_other Ot_0.out c10.out f10.out); clear b10 c10; replace H := let_hid H; obtain ⟨t_39, p16, H⟩ := H; replace H := app_hid H; go_wp2_with fail; clear j17 v10 w10 t10 r10 n10 q10 s10 o10 x10 p10 h11 a11 f11 e11 y10 c11 b11 g11 z10 g15
     go_roundg m0
     case measure => omega
     case rel => exact ⟨_, _, rfl, H, e16, k17, w16, r15, n16, m17, w15, s15, p17, q15, c16, Ot_0, l17, Lib.hid (v16.out), Lib.hid f10.out⟩
end Go.Proofs.Ytgbcdmlcmnaimaa.GiLatestMinutes

namespace Go.Proofs.Ytgbcdmlcmnaimaa.GiCanTake
open Go.RowKit
open Go.Proofs.Ytgbcdmlcmnaimaa.Rowed Go.Proofs.Ytgbcdmlcmnaimaa.Turn Go.Proofs.Ytgbcdmlcmnaimaa.Aid Go.Proofs.Ytgbcdmlcmnaimaa.GoP Go.Proofs.Ytgbcdmlcmnaimaa.GoM

def P (x : PMail.Mail) (office : Int) (minute : Int) : Option (Bool) :=
 unMail x fun (x_leave : Int) (x_from_ : Int) (x_to_ : Int) (x_arrive : Int) =>
 letK (x_from_ == office) fun (t_5 : Bool) =>
 joinK (fun (t_11 : Bool) =>
 some t_11) fun jt_11 => iteK t_5 (letK (decide (minute ≤ x_leave)) fun (t_10 : Bool) =>
 appK jt_11 t_10) (appK jt_11 false)

set_option maxRecDepth 100000 in
set_option maxHeartbeats 2000000 in
theorem C (x : PMail.Mail) (office : Int) (minute : Int)   (w : World)   {r : Bool} (H : Hid (P x office minute = some r)) :
  Calls Try.prog 53 #[x.val, .int .i64 office, .int .i64 minute] w (Gives (.bool r) w) := by
 have HB := Lib.hid (Below.refl w.heap.size w); unfold P at H; obtain ⟨x_leave, x_from_, x_to_, x_arrive⟩ := x; replace H := unMail_hid H; unfold PMail.Mail.val
 go_enter Try.func53, Try.ntmps53
 obtain ⟨b10, a10⟩ : ∃ x, w.alloc (.cells #[.int .i64 x_leave, .int .i64 x_from_, .int .i64 x_to_, .int .i64 x_arrive] 77) = x := ⟨_, rfl⟩; have d10 : Below w.heap.size w b10 := (by rw [← a10]; exact (Below.refl _ _).alloc (Nat.le_refl _) _); have c10 := Lib.hid (Below.step HB.out d10); clear d10; have g10 : b10.cell? ⟨w.heap.size, 0, none⟩ = some (.int .i64 x_leave) := (by rw [← a10]; exact box_new _ _ _ 0 _ rfl); have h10 : b10.cell? ⟨w.heap.size, 1, none⟩ = some (.int .i64 x_from_) := (by rw [← a10]; exact box_new _ _ _ 1 _ rfl); have i10 : b10.cell? ⟨w.heap.size, 2, none⟩ = some (.int .i64 x_to_) := (by rw [← a10]; exact box_new _ _ _ 2 _ rfl); have f10 : b10.cell? ⟨w.heap.size, 3, none⟩ = some (.int .i64 x_arrive) := (by rw [← a10]; exact box_new _ _ _ 3 _ rfl); replace H := let_hid H; obtain ⟨t_5, ht_5, H⟩ := H; replace H := join_hid H
 cases t_5 with
 | false =>
  replace H := ite_f H; replace H := app_hid H; obtain rfl := ret_hid H; go_wp2_with fail; go_ret; exact ⟨rfl, c10.out⟩
 | true =>
  replace H := ite_t H; replace H := let_hid H; obtain ⟨t_10, e10, H⟩ := H; replace H := app_hid H; obtain rfl := ret_hid H; go_wp2_with fail; go_ret; exact ⟨rfl, c10.out⟩
end Go.Proofs.Ytgbcdmlcmnaimaa.GiCanTake

namespace Go.Proofs.Ytgbcdmlcmnaimaa.GiFirstRoute
open Go.RowKit
open Go.Proofs.Ytgbcdmlcmnaimaa.Rowed Go.Proofs.Ytgbcdmlcmnaimaa.Turn Go.Proofs.Ytgbcdmlcmnaimaa.Aid Go.Proofs.Ytgbcdmlcmnaimaa.GoP Go.Proofs.Ytgbcdmlcmnaimaa.GoM

def l1 (list : (List PMail.Mail)) (vlatest_0 : (List Int)) (nx0 : (Int × Int × (List Int)) → Option ((List Int))) (k1 : Nat) (s : Int × Int × (List Int)) (nx1 bk1 : Int × Int × (List Int) → Option ((List Int))) : Option ((List Int)) :=
 unp3 s fun office_1l1 minute_2l1 route_9l1 =>
 Option.bind (idx list (k1 : Int)) fun (yt_9 : PMail.Mail) =>
 unMail yt_9 fun (t_9_leave : Int) (t_9_from_ : Int) (t_9_to_ : Int) (t_9_arrive : Int) =>
 Option.bind (GiCanTake.P (PMail.Mail.mk t_9_leave t_9_from_ t_9_to_ t_9_arrive) office_1l1 minute_2l1) fun (t_17 : Bool) =>
 joinK (fun (t_26 : Bool) =>
 iteK t_26
 (guardK (route_9l1.length ≤ 1099511627776) <|
 letK (route_9l1 ++ [(k1 : Int)]) fun (t_30 : (List Int)) =>
 appK nx0 (t_9_to_, t_9_arrive, t_30))
 (appK nx1 (office_1l1, minute_2l1, route_9l1))) fun jt_26 => iteK t_17 (Option.bind (idx vlatest_0 t_9_to_) fun (yt_23 : Int) =>
 letK (decide (t_9_arrive ≤ yt_23)) fun (t_25 : Bool) =>
 appK jt_26 t_25) (appK jt_26 false)

def e1  (s : Int × Int × (List Int)) : Option ((List Int)) :=
 unp3 s fun office_1l1 minute_2l1 route_9l1 =>
 some route_9l1

def l0 (list : (List PMail.Mail)) (vlatest_0 : (List Int)) (s : Int × Int × (List Int)) (nx0 bk0 : Int × Int × (List Int) → Option ((List Int))) : Option ((List Int)) :=
 unp3 s fun office_1l0 minute_2l0 route_9l0 =>
 cntK (l1 list vlatest_0 nx0) (list.length) 0 (office_1l0, minute_2l0, route_9l0) (e1 )

def e0  (s : Int × Int × (List Int)) : Option ((List Int)) :=
 unp3 s fun office_1l0 minute_2l0 route_9l0 =>
 some []

def P (fuel : Nat) (list : (List PMail.Mail)) (office : Int) (minute : Int) (latest : PIntA10.IntA10) : Option ((List Int)) :=
 unIntA10 latest fun (latest_x0 : Int) (latest_x1 : Int) (latest_x2 : Int) (latest_x3 : Int) (latest_x4 : Int) (latest_x5 : Int) (latest_x6 : Int) (latest_x7 : Int) (latest_x8 : Int) (latest_x9 : Int) =>
 letK ([latest_x0, latest_x1, latest_x2, latest_x3, latest_x4, latest_x5, latest_x6, latest_x7, latest_x8, latest_x9]) fun (vlatest_0 : (List Int)) =>
 loopK (l0 list vlatest_0) fuel (office, minute, ([] : List Int)) (e0 )

set_option maxRecDepth 100000 in
set_option maxHeartbeats 2000000 in
theorem C (fuel : Nat) (list : (List PMail.Mail)) (office : Int) (minute : Int) (latest : PIntA10.IntA10) (A0 : Option Addr) (c0 : Nat)  (w : World) (M0 : Hid (Cells w 4 A0 list.length (PMail.flat list))) (N0 : Hid (list.length ≤ 9223372036854775807))  {r : (List Int)} (H : Hid (P fuel list office minute latest = some r)) :
  Calls Try.prog 95 #[.slice A0 list.length c0, .int .i64 office, .int .i64 minute, latest.val] w (fun e w' => ∃ A_r c_r, e = .returned (.slice A_r r.length c_r) ∧ w'.ownsRow w.heap.size 3 1 (.slice A_r r.length c_r) r.length (HelpInt.iv r) ∧ Below w.heap.size w w') := by
 have HB := Lib.hid (Below.refl w.heap.size w); unfold P at H; obtain ⟨s12, w12, n12, t12, q12, l12, j12, v12, m12, x12⟩ := latest; replace H := unIntA10_hid H; unfold PIntA10.IntA10.val; have N0o := N0.out; obtain ⟨i0_3, hi_3, n14, c14, f14⟩ := Aid.info_parts (P := Try.prog) (T := 3) (z := .int .i64 0) (s := 1) (b := 8) (by kernel_rfl)
 go_enter Try.func95, Try.ntmps95
 replace H := let_hid H; obtain ⟨a11, e12, H⟩ := H; obtain ⟨d11, z13⟩ : ∃ x, w.alloc (.cells #[.int .i64 s12, .int .i64 w12, .int .i64 n12, .int .i64 t12, .int .i64 q12, .int .i64 l12, .int .i64 j12, .int .i64 v12, .int .i64 m12, .int .i64 x12] 78) = x := ⟨_, rfl⟩; have r13 : Below w.heap.size w d11 := (by rw [← z13]; exact (Below.refl _ _).alloc (Nat.le_refl _) _); have b13 := HB.out.size; have n11 : a11.length = 10 := (by rw [← e12]; rfl)
 have a10 : Hid (d11.ownsRow w.heap.size 78 1 (.slice (some ⟨w.heap.size, 0, none⟩) 10 10) 10 (HelpInt.iv a11)) := by
  rw [← z13, ← e12]; have e_ : ([.int .i64 s12, .int .i64 w12, .int .i64 n12, .int .i64 t12, .int .i64 q12, .int .i64 l12, .int .i64 j12, .int .i64 v12, .int .i64 m12, .int .i64 x12] : List Value) = HelpInt.iv [s12, w12, n12, t12, q12, l12, j12, v12, m12, x12] := rfl; exact Lib.hid (own_laid (n := 10) b13 e_ rfl (by unfold maxLen; omega))
 clear b13; have a15 := Lib.hid e12; clear e12; replace n11 := Lib.hid n11; have t13 := Lib.hid (Below.step HB.out r13); clear r13; go_wp2_with fail; refine GoA.wp_scope_goto (l := 0) rfl ?_; intro Kg_ hKg_; obtain ⟨w13, k13⟩ : ∃ x, d11.alloc (.cells #[] 3) = x := ⟨_, rfl⟩; have o12 : Below d11.heap.size d11 w13 := (by rw [← k13]; exact (Below.refl _ _).alloc (Nat.le_refl _) _); have Ot_2 : Hid (w13.ownsRow w.heap.size 3 1 (.slice (some ⟨d11.heap.size, 0, none⟩) 0 0) 0 []) := Lib.hid (by rw [← k13]; exact own_empty t13.out.size); have l14 := Lib.hid (apart_fresh a10.out); have b14 := Lib.hid (Below.step t13.out o12); replace a10 := Lib.hid (own_below a10.out o12); clear o12; go_wp2_with fail
 try refine hKg_ _ _ ?_
 refine GoA.jumps_intro [false, true, true, false, false, false, false, false, true, true, true, true, false, true, true, true, true, true, true, true, true, true, true, true, true, true, true, true, true, true, true, true, true, true, true, true, true, true, true, true, true, true, true] fuel (fun m_ u_ wr => (fun m_ v1_ v2_ v9_ wr => ∃ (i12 : Int) (k12 : Int) (c11 : (List Int)) (q11 : Option Addr) (r12 : Nat), v1_ = .int .i64 i12 ∧ v2_ = .int .i64 k12 ∧ v9_ = .slice q11 c11.length r12 ∧ Hid (loopK (l0 list a11) m_ (i12, k12, c11) (e0 ) = some r) ∧ Hid (Below w.heap.size w wr) ∧ Hid (wr.ownsRow w.heap.size 3 1 (.slice q11 c11.length r12) c11.length (HelpInt.iv c11)) ∧ Hid (wr.ownsRow w.heap.size 78 1 (.slice (some ⟨w.heap.size, 0, none⟩) 10 10) 10 (HelpInt.iv a11)) ∧ Hid (Apart q11 (some ⟨w.heap.size, 0, none⟩))) m_ (u_ 1) (u_ 2) (u_ 9) wr) ?atStart ?round
 case atStart => exact ⟨_, _, _, _, _, rfl, rfl, rfl, H, b14, Ot_2, a10, Lib.hid l14.out⟩
 case round =>
  intro gk ug_ wg_ hrel Jg_ hJg_; obtain ⟨i12, k12, c11, q11, r12, eg1_, eg2_, eg9_, H, a14, k14, a10, m14⟩ := hrel; rename World => wr0; simp only [GoA.over, Nat.reduceAdd, eg1_, eg2_, eg9_]; clear eg1_ eg2_ eg9_
  cases gk with
  | zero => exact (loop_zero H).elim
  | succ m0 =>
   replace H := loop_succ H; unfold l0 at H; replace H := unp3_hid H; go_wp2_with fail; go_loopg [15, 1, 2, 9] (list.length) (fun m_ v15_ v1_ v2_ v9_ wr => ∃ (k1 : Nat) (f11 : Int) (l11 : Int) (e11 : (List Int)) (h11 : Option Addr) (z11 : Nat), k1 + m_ = list.length ∧ v15_ = .int .i64 (k1 : Int) ∧ v1_ = .int .i64 f11 ∧ v2_ = .int .i64 l11 ∧ v9_ = .slice h11 e11.length z11 ∧ Hid (cntK (l1 list a11 (fun s' => loopK (l0 list a11) m0 s' (e0 ))) m_ k1 (f11, l11, e11) (e1 ) = some r) ∧ Hid (Below w.heap.size w wr) ∧ Hid (wr.ownsRow w.heap.size 3 1 (.slice h11 e11.length z11) e11.length (HelpInt.iv e11)) ∧ Hid (wr.ownsRow w.heap.size 78 1 (.slice (some ⟨w.heap.size, 0, none⟩) 10 10) 10 (HelpInt.iv a11)) ∧ Hid (Apart h11 (some ⟨w.heap.size, 0, none⟩)))
   case atStart => exact ⟨0, _, _, _, _, _, by omega, rfl, rfl, rfl, rfl, H, a14, k14, a10, Lib.hid m14.out⟩
   case round =>
    obtain ⟨k1, f11, l11, e11, h11, z11, hkm1, rfl, rfl, rfl, rfl, H, b11, b10, a10, k11⟩ := hrel; rename World => wr1
    cases gk with
    | zero =>
     obtain rfl : k1 = list.length := (by omega); have hc1 : decide (((list.length : Nat) : Int) < ((list.length : Nat) : Int)) = false := (by simp); replace H := cnt_zero H; unfold e1 at H; replace H := unp3_hid H; obtain rfl := ret_hid H; go_wp2_with fail
     try simp only [Exit.noGoto, Exit.jump]
     go_wp2_with fail; go_ret; exact ⟨h11, z11, rfl, b10.out, b11.out⟩
    | succ m1 =>
     have hlt1 : k1 < list.length := (by omega); have hc1 : decide ((k1 : Int) < ((list.length : Nat) : Int)) = true := (by simp; omega); replace H := cnt_succ H; unfold l1 at H; replace H := unp3_hid H; replace H := idx_hid H; obtain ⟨nt_9, yt_9, et_9, lt_9, gt_9, H⟩ := H; obtain rfl : k1 = nt_9 := (by omega); clear et_9; obtain ⟨d12, c12, w11, m11⟩ := yt_9; replace H := unMail_hid H; obtain ⟨l15, r14, zt_9, At_9, i13, g11, r11, x11, p11⟩ := OMail.at_ M0.out lt_9; obtain rfl := Option.some.inj (gt_9.out.symm.trans i13); subst At_9; have f12 := cell_lt g11; replace g11 := cell_below b11.out g11; replace r11 := cell_below b11.out r11; replace x11 := cell_below b11.out x11; replace p11 := cell_below b11.out p11; clear i13; have f15 : (0 : Int) ≤ (k1 : Int) := (by omega); have v14 : (k1 : Int) < ((list.length : Nat) : Int) := (by omega); have g15 : ((k1 : Int)).toNat = k1 := (by omega); obtain ⟨y10, j11⟩ : ∃ x, wr1.alloc (.cells #[.int .i64 d12, .int .i64 c12, .int .i64 w11, .int .i64 m11] 77) = x := ⟨_, rfl⟩; have x10 : Below wr1.heap.size wr1 y10 := (by rw [← j11]; exact (Below.refl _ _).alloc (Nat.le_refl _) _); have t14 := Lib.hid (apart_fresh a10.out); have i11 := Lib.hid (apart_fresh b10.out); have p13 := Lib.hid (Below.step b11.out x10); have j10 := cell_below x10 g11; have f10 := cell_below x10 r11; have l10 := cell_below x10 x11; have e10 := cell_below x10 p11; replace a10 := Lib.hid (own_below a10.out x10); replace b10 := Lib.hid (own_below b10.out x10); clear x10; have g10 : y10.cell? ⟨wr1.heap.size, 0, none⟩ = some (.int .i64 d12) := (by rw [← j11]; exact box_new _ _ _ 0 _ rfl); have k10 : y10.cell? ⟨wr1.heap.size, 1, none⟩ = some (.int .i64 c12) := (by rw [← j11]; exact box_new _ _ _ 1 _ rfl); have i10 : y10.cell? ⟨wr1.heap.size, 2, none⟩ = some (.int .i64 w11) := (by rw [← j11]; exact box_new _ _ _ 2 _ rfl); have h10 : y10.cell? ⟨wr1.heap.size, 3, none⟩ = some (.int .i64 m11) := (by rw [← j11]; exact box_new _ _ _ 3 _ rfl); go_wp2_with fail; clear g11 r11 x11 p11; have o11 := Lib.hid j10; replace j10 := cell_regrown j10; have b12 := Lib.hid f10; replace f10 := cell_regrown f10; have a12 := Lib.hid l10; replace l10 := cell_regrown l10; have s11 := Lib.hid e10; replace e10 := cell_regrown e10; have g12 := Lib.hid g10; replace g10 := cell_regrown g10; have h12 := Lib.hid k10; replace k10 := cell_regrown k10; have y11 := Lib.hid i10; replace i10 := cell_regrown i10; have v11 := Lib.hid h10; replace h10 := cell_regrown h10; replace H := bind_hid H; obtain ⟨t_17, p14, H⟩ := H; have t11 : ∀ d os, Calls Try.prog 53 #[.agg #[.int .i64 d12, .int .i64 c12, .int .i64 w11, .int .i64 m11], .int .i64 f11, .int .i64 l11] (Go.Sort.grow (redrawn y10 d) os) fun e w'' => e = .returned (.bool t_17) ∧ ∃ p : Regrown, w'' = Go.Sort.grow (redrawn y10 p.d) p.os := fun d os => Calls.regrown_of (GiCanTake.C ((PMail.Mail.mk d12 c12 w11 m11)) (f11) (l11)  _    p14); replace H := join_hid H
     cases t_17 with
     | false =>
      replace H := ite_f H; replace H := app_hid H; refine wp_region_quiet_below (by kernel_rfl) (by kernel_rfl) ?_
      repeat (go_big_quiet_step (first | (go_at_call 53; exact t11 _ _)))
      refine wpQuiet_nil ?_; intro Y5 hY5; replace hY5 := below_class hY5; clear t11; replace j10 := o11.out; clear o11; replace f10 := b12.out; clear b12; replace l10 := a12.out; clear a12; replace e10 := s11.out; clear s11; replace g10 := g12.out; clear g12; replace k10 := h12.out; clear h12; replace i10 := y11.out; clear y11; replace h10 := v11.out; clear v11; have HBY5 := Lib.hid (Below.step p13.out hY5); replace j10 := cell_below hY5 j10; replace f10 := cell_below hY5 f10; replace l10 := cell_below hY5 l10; replace e10 := cell_below hY5 e10; replace g10 := cell_below hY5 g10; replace k10 := cell_below hY5 k10; replace i10 := cell_below hY5 i10; replace h10 := cell_below hY5 h10; replace a10 := Lib.hid (own_below a10.out hY5); replace b10 := Lib.hid (own_below b10.out hY5); clear hY5; replace H := ite_f H; replace H := app_hid H; go_wp2_with fail
      go_roundg m1
      case measure => omega
      case rel => exact ⟨k1 + 1, _, _, _, _, _, by omega, by go_num, rfl, rfl, rfl, H, HBY5, b10, a10, Lib.hid k11.out⟩
     | true =>
      replace H := ite_t H; replace H := idx_hid H; obtain ⟨z10, h15, h14, g14, q14, H⟩ := H; subst h14; have d14 := n11.out; obtain ⟨y14, e15, b15, h13, e13, n10⟩ := HelpInt.Ints.at_ (own_cells a10.out) (k := z10) (by omega); obtain rfl := Option.some.inj (q14.out.symm.trans e13); simp only [Option.some.injEq, Addr.mk.injEq] at h13; obtain ⟨rfl, rfl, _⟩ := h13; clear e13; simp only [Nat.zero_add] at n10; have s14 : (0 : Int) ≤ (z10 : Int) := (by omega); have k15 : (z10 : Int) < ((10 : Nat) : Int) := (by omega); have j15 : ((z10 : Int)).toNat = z10 := (by omega); clear d14; have d13 := Lib.hid n10; replace n10 := cell_regrown n10; have w14 : z10 < 10 := (by have h_ := g14; have hn_ := n11.out; omega); have x14 : (z10 : Int) < (10 : Int) := (by omega); replace H := let_hid H; obtain ⟨t_25, i15, H⟩ := H; replace H := app_hid H; refine wp_region_quiet_below (by kernel_rfl) (by kernel_rfl) ?_
      repeat (go_big_quiet_step (first | (go_at_call 53; exact t11 _ _)))
      refine wpQuiet_nil ?_; intro Y5 hY5; replace hY5 := below_class hY5; clear t11; replace j10 := o11.out; clear o11; replace f10 := b12.out; clear b12; replace l10 := a12.out; clear a12; replace e10 := s11.out; clear s11; replace g10 := g12.out; clear g12; replace k10 := h12.out; clear h12; replace i10 := y11.out; clear y11; replace h10 := v11.out; clear v11; replace n10 := d13.out; clear d13; have HBY5 := Lib.hid (Below.step p13.out hY5); replace j10 := cell_below hY5 j10; replace f10 := cell_below hY5 f10; replace l10 := cell_below hY5 l10; replace e10 := cell_below hY5 e10; replace g10 := cell_below hY5 g10; replace k10 := cell_below hY5 k10; replace i10 := cell_below hY5 i10; replace h10 := cell_below hY5 h10; replace n10 := cell_below hY5 n10; replace a10 := Lib.hid (own_below a10.out hY5); replace b10 := Lib.hid (own_below b10.out hY5); clear hY5
      cases t_25 with
      | false =>
       replace H := ite_f H; replace H := app_hid H; go_wp2_with fail
       go_roundg m1
       case measure => omega
       case rel => exact ⟨k1 + 1, _, _, _, _, _, by omega, by go_num, rfl, rfl, rfl, H, HBY5, b10, a10, Lib.hid k11.out⟩
      | true =>
       replace H := ite_t H; obtain ⟨j14, o13⟩ : ∃ x, Y5.alloc (.cells #[.int .i64 (k1 : Int)] 3) = x := ⟨_, rfl⟩; have c10 : Below Y5.heap.size Y5 j14 := (by rw [← o13]; exact (Below.refl _ _).alloc (Nat.le_refl _) _); have q13 := Lib.hid (Below.step HBY5.out c10); have s10 := cell_below c10 j10; have v10 := cell_below c10 f10; have o10 := cell_below c10 l10; have q10 := cell_below c10 e10; have m10 := cell_below c10 g10; have p10 := cell_below c10 k10; have r10 := cell_below c10 i10; have w10 := cell_below c10 h10; have t10 := cell_below c10 n10; replace a10 := Lib.hid (own_below a10.out c10); replace b10 := Lib.hid (own_below b10.out c10); clear c10; replace H := guard_hid H; obtain ⟨d15, H⟩ := H; replace H := let_hid H; obtain ⟨t_30, s13, H⟩ := H; have e14 := Lib.hid s13; clear s13; have p12 := q13.out.size; go_wp2_with (at_builtin; refine wpList_append_own_at _ rfl _ _ 33 rfl w.heap.size 3 i0_3 (.int .i64 0) 1 8 Try.underlying33 hi_3 n14 c14 f14 rfl (by decide) _ _ _ rfl b10.out ⟨Y5.heap.size, 0, none⟩ 1 1 [.int .i64 (k1 : Int)] rfl rfl (news_new o13) (one_cells rfl) (by unfold maxLen; omega) (by omega) p12 ?_; intro vt_30 wt_30 ot_30 gt_30 zt_30 yt_30; clear zt_30; obtain ⟨m13, z14, rfl, f13⟩ := own_push e14.out (HelpInt.iv_snoc _ _) rfl ot_30; have y12 := Lib.hid f13; have z12 := Lib.hid yt_30; have d10 := Lib.hid gt_30; clear ot_30 gt_30 f13 yt_30; refine stop_in ?_); refine stop_out ?_; have i14 := Lib.hid (q13.out.grown d10.out p12 (fun q hq => (b10.out.lt q hq).1)); clear p12; have o14 : Hid (Apart (some ⟨m13, 0, none⟩) _) := Lib.hid (apart_app k11.out (fun a_ ha_ => (own_lt a10.out a_ ha_).2) z12.out); have c15 : Hid (Apart (some ⟨m13, 0, none⟩) _) := Lib.hid (apart_app (Apart.symm i11.out) (fun a_ ha_ => by cases ha_; exact cell_lt m10) z12.out); replace s10 := cell_other s10 d10.out (apart_old b10.out f12); replace v10 := cell_other v10 d10.out (apart_old b10.out f12); replace o10 := cell_other o10 d10.out (apart_old b10.out f12); replace q10 := cell_other q10 d10.out (apart_old b10.out f12); replace m10 := cell_other m10 d10.out (Apart.symm i11.out); replace p10 := cell_other p10 d10.out (Apart.symm i11.out); replace r10 := cell_other r10 d10.out (Apart.symm i11.out); replace w10 := cell_other w10 d10.out (Apart.symm i11.out); replace t10 := cell_other t10 d10.out k11.out; replace a10 := Lib.hid (own_other a10.out d10.out k11.out); clear j10 f10 l10 e10 g10 k10 i10 h10 n10; clear b10 z12 d10; go_wp2_with fail; have c13 := Lib.hid s10; replace s10 := cell_regrown s10; have x13 := Lib.hid v10; replace v10 := cell_regrown v10; have g13 := Lib.hid o10; replace o10 := cell_regrown o10; have v13 := Lib.hid q10; replace q10 := cell_regrown q10; have a13 := Lib.hid m10; replace m10 := cell_regrown m10; have n13 := Lib.hid p10; replace p10 := cell_regrown p10; have l13 := Lib.hid r10; replace r10 := cell_regrown r10; have j13 := Lib.hid w10; replace w10 := cell_regrown w10; have y13 := Lib.hid t10; replace t10 := cell_regrown t10; refine wp_region_quiet_below (by kernel_rfl) (by kernel_rfl) ?_
       repeat (go_big_quiet_step (fail))
       refine wpQuiet_nil ?_; intro Y7 hY7; replace hY7 := below_class hY7; replace s10 := c13.out; clear c13; replace v10 := x13.out; clear x13; replace o10 := g13.out; clear g13; replace q10 := v13.out; clear v13; replace m10 := a13.out; clear a13; replace p10 := n13.out; clear n13; replace r10 := l13.out; clear l13; replace w10 := j13.out; clear j13; replace t10 := y13.out; clear y13; have HBY7 := Lib.hid (Below.step i14.out hY7); replace s10 := cell_below hY7 s10; replace v10 := cell_below hY7 v10; replace o10 := cell_below hY7 o10; replace q10 := cell_below hY7 q10; replace m10 := cell_below hY7 m10; replace p10 := cell_below hY7 p10; replace r10 := cell_below hY7 r10; replace w10 := cell_below hY7 w10; replace t10 := cell_below hY7 t10; replace a10 := Lib.hid (own_below a10.out hY7); replace y12 := Lib.hid (own_below y12.out hY7); clear hY7; replace H := app_hid H; go_wp2_with fail; refine wp_goto ?_; simp only [Exit.then, Exit.inBlock, Exit.jump, true_and]; refine GoA.handed_goto hJg_ m0 ?measure rfl ?rel
       case measure => omega
       case rel => exact ⟨_, _, _, _, _, rfl, rfl, rfl, H, HBY7, y12, a10, Lib.hid o14.out⟩
end Go.Proofs.Ytgbcdmlcmnaimaa.GiFirstRoute

namespace Go.Proofs.Ytgbcdmlcmnaimaa.GiBestRoute
open Go.RowKit
open Go.Proofs.Ytgbcdmlcmnaimaa.Rowed Go.Proofs.Ytgbcdmlcmnaimaa.Turn Go.Proofs.Ytgbcdmlcmnaimaa.Aid Go.Proofs.Ytgbcdmlcmnaimaa.GoP Go.Proofs.Ytgbcdmlcmnaimaa.GoM

def P (fuel : Nat) (list : (List PMail.Mail)) (from_1 : Int) (minute : Int) (to_3 : Int) : Option ((List Int) × Bool) :=
 bind2 (GiEarliestAt.P list from_1 minute to_3) fun (t_6a : Int) (t_6b : Bool) =>
 letK (!t_6b) fun (t_13 : Bool) =>
 iteK t_13
 (some (([] : List Int), false))
 (Option.bind (GiLatestMinutes.P fuel list to_3 t_6a) fun (t_23 : PIntA10.IntA10) =>
 unIntA10 t_23 fun (t_23_x0 : Int) (t_23_x1 : Int) (t_23_x2 : Int) (t_23_x3 : Int) (t_23_x4 : Int) (t_23_x5 : Int) (t_23_x6 : Int) (t_23_x7 : Int) (t_23_x8 : Int) (t_23_x9 : Int) =>
 Option.bind (GiFirstRoute.P fuel list from_1 minute (PIntA10.IntA10.mk t_23_x0 t_23_x1 t_23_x2 t_23_x3 t_23_x4 t_23_x5 t_23_x6 t_23_x7 t_23_x8 t_23_x9)) fun (t_24 : (List Int)) =>
 some (t_24, true))

set_option maxRecDepth 100000 in
set_option maxHeartbeats 2000000 in
theorem C (fuel : Nat) (list : (List PMail.Mail)) (from_1 : Int) (minute : Int) (to_3 : Int) (A0 : Option Addr) (c0 : Nat)  (w : World) (M0 : Hid (Cells w 4 A0 list.length (PMail.flat list))) (N0 : Hid (list.length ≤ 9223372036854775807))  {r0 : (List Int)} {r1 : Bool} (H : Hid (P fuel list from_1 minute to_3 = some (r0, r1))) :
  Calls Try.prog 49 #[.slice A0 list.length c0, .int .i64 from_1, .int .i64 minute, .int .i64 to_3] w (fun e w' => ∃ A_r0 c_r0, e = .returned (.tuple #[.slice A_r0 r0.length c_r0, .bool r1]) ∧ w'.ownsRow w.heap.size 3 1 (.slice A_r0 r0.length c_r0) r0.length (HelpInt.iv r0) ∧ Below w.heap.size w w') := by
 have HB := Lib.hid (Below.refl w.heap.size w); unfold P at H; have N0o := N0.out
 go_enter Try.func49, Try.ntmps49
 replace H := bind2_hid H; obtain ⟨t_6a, t_6b, qt_6, H⟩ := H; go_wp2_with fail; go_at_call 94; refine (GiEarliestAt.C (list) (from_1) (minute) (to_3) A0 c0 _   (Lib.hid (Cells.below M0.out HB.out)) N0 qt_6).mono ?_; rintro c11 wt_6 ⟨rfl, bt_6⟩; have a10 := Lib.hid (Below.step HB.out bt_6); clear bt_6
 cases t_6b with
 | false =>
  replace H := let_hid H; obtain ⟨t_13, c10, H⟩ := H; obtain rfl : t_13 = true := c10.symm; replace H := ite_t H; obtain ⟨h10, f10⟩ : ∃ x, wt_6.alloc (.cells #[] 3) = x := ⟨_, rfl⟩; have e10 : Below wt_6.heap.size wt_6 h10 := (by rw [← f10]; exact (Below.refl _ _).alloc (Nat.le_refl _) _); have p10 : Hid (h10.ownsRow w.heap.size 3 1 (.slice (some ⟨wt_6.heap.size, 0, none⟩) 0 0) 0 []) := Lib.hid (by rw [← f10]; exact own_empty a10.out.size); have a11 := Lib.hid (Below.step a10.out e10); clear e10; cases ret_hid H; go_wp2_with fail; go_ret2; exact ⟨(some ⟨wt_6.heap.size, 0, none⟩), 0, rfl, p10.out, a11.out⟩
 | true =>
  replace H := let_hid H; obtain ⟨t_13, c10, H⟩ := H; obtain rfl : t_13 = false := c10.symm; replace H := ite_f H; replace H := bind_hid H; obtain ⟨t_23, w10, H⟩ := H; obtain ⟨l10, x10, r10, b11, j10, o10, k10, q10, n10, t10⟩ := t_23; replace H := unIntA10_hid H; go_wp2_with fail; go_at_call 54; refine (GiLatestMinutes.C fuel (list) (to_3) (t_6a) A0 c0 _   (Lib.hid (Cells.below M0.out a10.out)) N0 w10).mono ?_; rintro f11 e11 ⟨rfl, g10⟩; unfold PIntA10.IntA10.val; have b10 := Lib.hid (Below.step a10.out g10); clear g10; replace H := bind_hid H; obtain ⟨t_24, v10, H⟩ := H; go_wp2_with fail; go_at_call 95; refine (GiFirstRoute.C fuel (list) (from_1) (minute) ((PIntA10.IntA10.mk l10 x10 r10 b11 j10 o10 k10 q10 n10 t10)) A0 c0 _   (Lib.hid (Cells.below M0.out b10.out)) N0 v10).mono ?_; rintro g11 d11 ⟨m10, z10, rfl, i10, d10⟩; have s10 := Lib.hid (own_lower i10 b10.out.size); clear i10; have y10 := Lib.hid (Below.step b10.out d10); clear d10; cases ret_hid H; go_wp2_with fail; go_ret2; exact ⟨m10, z10, rfl, s10.out, y10.out⟩
end Go.Proofs.Ytgbcdmlcmnaimaa.GiBestRoute

namespace Go.Proofs.Ytgbcdmlcmnaimaa.GiRouteOn
open Go.RowKit
open Go.Proofs.Ytgbcdmlcmnaimaa.Rowed Go.Proofs.Ytgbcdmlcmnaimaa.Turn Go.Proofs.Ytgbcdmlcmnaimaa.Aid Go.Proofs.Ytgbcdmlcmnaimaa.GoP Go.Proofs.Ytgbcdmlcmnaimaa.GoM

def P (fuel : Nat) (mails : (List PMail.Mail)) (x : PCover.Cover) : Option ((List Int) × Bool) :=
 unCover x fun (x_id : Int) (x_day : Int) (x_zone : Int) (x_grams : Int) (x_paid : Int) (x_from_ : Int) (x_to_ : Int) (x_leave : Int) (x_arrive : Int) =>
 Option.bind (GiIsTimetable.P mails) fun (t_4 : Bool) =>
 letK (!t_4) fun (t_5 : Bool) =>
 joinK (fun (t_10 : Bool) =>
 joinK (fun (t_18 : Bool) =>
 iteK t_18
 (some (([] : List Int), false))
 (bind2 (GiBestRoute.P fuel mails x_from_ x_leave x_to_) fun (t_29a : (List Int)) (t_29b : Bool) =>
 some (t_29a, t_29b))) fun jt_18 => iteK t_10 (appK jt_18 true) (Option.bind (GiEarliestEnd.P mails (PCover.Cover.mk x_id x_day x_zone x_grams x_paid x_from_ x_to_ x_leave x_arrive)) fun (t_14 : Int) =>
 letK (decide (x_arrive < t_14)) fun (t_17 : Bool) =>
 appK jt_18 t_17)) fun jt_10 => iteK t_5 (appK jt_10 true) (Option.bind (GiIsCover.P (PCover.Cover.mk x_id x_day x_zone x_grams x_paid x_from_ x_to_ x_leave x_arrive)) fun (t_8 : Bool) =>
 letK (!t_8) fun (t_9 : Bool) =>
 appK jt_10 t_9)

set_option maxRecDepth 100000 in
set_option maxHeartbeats 2000000 in
theorem C (fuel : Nat) (mails : (List PMail.Mail)) (x : PCover.Cover) (A0 : Option Addr) (c0 : Nat)  (w : World) (M0 : Hid (Cells w 4 A0 mails.length (PMail.flat mails))) (N0 : Hid (mails.length ≤ 9223372036854775807))  {r0 : (List Int)} {r1 : Bool} (H : Hid (P fuel mails x = some (r0, r1))) :
  Calls Try.prog 11 #[.slice A0 mails.length c0, x.val] w (fun e w' => ∃ A_r0 c_r0, e = .returned (.tuple #[.slice A_r0 r0.length c_r0, .bool r1]) ∧ w'.ownsRow w.heap.size 3 1 (.slice A_r0 r0.length c_r0) r0.length (HelpInt.iv r0) ∧ Below w.heap.size w w') := by
 have HB := Lib.hid (Below.refl w.heap.size w); unfold P at H; obtain ⟨x_id, x_day, x_zone, x_grams, x_paid, x_from_, x_to_, x_leave, x_arrive⟩ := x; replace H := unCover_hid H; unfold PCover.Cover.val; have N0o := N0.out
 go_enter Try.func11, Try.ntmps11
 obtain ⟨k10, m10⟩ : ∃ x, w.alloc (.cells #[.int .i64 x_id, .int .i64 x_day, .int .i64 x_zone, .int .i64 x_grams, .int .i64 x_paid, .int .i64 x_from_, .int .i64 x_to_, .int .i64 x_leave, .int .i64 x_arrive] 27) = x := ⟨_, rfl⟩; have e11 : Below w.heap.size w k10 := (by rw [← m10]; exact (Below.refl _ _).alloc (Nat.le_refl _) _); have b11 := Lib.hid (Below.step HB.out e11); clear e11; have b10 : k10.cell? ⟨w.heap.size, 0, none⟩ = some (.int .i64 x_id) := (by rw [← m10]; exact box_new _ _ _ 0 _ rfl); have d10 : k10.cell? ⟨w.heap.size, 1, none⟩ = some (.int .i64 x_day) := (by rw [← m10]; exact box_new _ _ _ 1 _ rfl); have e10 : k10.cell? ⟨w.heap.size, 2, none⟩ = some (.int .i64 x_zone) := (by rw [← m10]; exact box_new _ _ _ 2 _ rfl); have c10 : k10.cell? ⟨w.heap.size, 3, none⟩ = some (.int .i64 x_grams) := (by rw [← m10]; exact box_new _ _ _ 3 _ rfl); have f10 : k10.cell? ⟨w.heap.size, 4, none⟩ = some (.int .i64 x_paid) := (by rw [← m10]; exact box_new _ _ _ 4 _ rfl); have i10 : k10.cell? ⟨w.heap.size, 5, none⟩ = some (.int .i64 x_from_) := (by rw [← m10]; exact box_new _ _ _ 5 _ rfl); have g10 : k10.cell? ⟨w.heap.size, 6, none⟩ = some (.int .i64 x_to_) := (by rw [← m10]; exact box_new _ _ _ 6 _ rfl); have j10 : k10.cell? ⟨w.heap.size, 7, none⟩ = some (.int .i64 x_leave) := (by rw [← m10]; exact box_new _ _ _ 7 _ rfl); have h10 : k10.cell? ⟨w.heap.size, 8, none⟩ = some (.int .i64 x_arrive) := (by rw [← m10]; exact box_new _ _ _ 8 _ rfl); go_wp2_with fail; have x10 := Lib.hid b10; replace b10 := cell_regrown b10; have s10 := Lib.hid d10; replace d10 := cell_regrown d10; have y10 := Lib.hid e10; replace e10 := cell_regrown e10; have t10 := Lib.hid c10; replace c10 := cell_regrown c10; have v10 := Lib.hid f10; replace f10 := cell_regrown f10; have w10 := Lib.hid i10; replace i10 := cell_regrown i10; have p10 := Lib.hid g10; replace g10 := cell_regrown g10; have q10 := Lib.hid j10; replace j10 := cell_regrown j10; have r10 := Lib.hid h10; replace h10 := cell_regrown h10; replace H := bind_hid H; obtain ⟨t_4, qt_4, H⟩ := H; have nt_4 : ∀ d os, Calls Try.prog 47 #[.slice A0 mails.length c0] (Go.Sort.grow (redrawn k10 d) os) fun e w'' => e = .returned (.bool t_4) ∧ ∃ p : Regrown, w'' = Go.Sort.grow (redrawn k10 p.d) p.os := fun d os => Calls.regrown_of (GiIsTimetable.C (mails) A0 c0 _   (Lib.hid (Cells.below (Cells.below M0.out b11.out) (below_regrown _ _ _))) N0 qt_4)
 cases t_4 with
 | false =>
  replace H := let_hid H; obtain ⟨t_5, ht_5, H⟩ := H; obtain rfl : t_5 = true := ht_5.symm; replace H := join_hid H; replace H := ite_t H; replace H := app_hid H; replace H := join_hid H; replace H := ite_t H; replace H := app_hid H; refine wp_region_quiet_below (by kernel_rfl) (by kernel_rfl) ?_
  repeat (go_big_quiet_step (first | (go_at_call 47; exact nt_4 _ _)))
  refine wpQuiet_nil ?_; intro Y1 hY1; replace hY1 := below_class hY1; clear nt_4; replace b10 := x10.out; clear x10; replace d10 := s10.out; clear s10; replace e10 := y10.out; clear y10; replace c10 := t10.out; clear t10; replace f10 := v10.out; clear v10; replace i10 := w10.out; clear w10; replace g10 := p10.out; clear p10; replace j10 := q10.out; clear q10; replace h10 := r10.out; clear r10; have HBY1 := Lib.hid (Below.step b11.out hY1); replace b10 := cell_below hY1 b10; replace d10 := cell_below hY1 d10; replace e10 := cell_below hY1 e10; replace c10 := cell_below hY1 c10; replace f10 := cell_below hY1 f10; replace i10 := cell_below hY1 i10; replace g10 := cell_below hY1 g10; replace j10 := cell_below hY1 j10; replace h10 := cell_below hY1 h10; clear hY1; replace H := ite_t H; obtain ⟨n10, o10⟩ : ∃ x, Y1.alloc (.cells #[] 3) = x := ⟨_, rfl⟩; have a10 : Below Y1.heap.size Y1 n10 := (by rw [← o10]; exact (Below.refl _ _).alloc (Nat.le_refl _) _); have a11 : Hid (n10.ownsRow w.heap.size 3 1 (.slice (some ⟨Y1.heap.size, 0, none⟩) 0 0) 0 []) := Lib.hid (by rw [← o10]; exact own_empty HBY1.out.size); have d11 := Lib.hid (apart_box b10); have z10 := Lib.hid (Below.step HBY1.out a10); have o11 := cell_below a10 b10; have m12 := cell_below a10 d10; have i12 := cell_below a10 e10; have o12 := cell_below a10 c10; have l12 := cell_below a10 f10; have f12 := cell_below a10 i10; have e12 := cell_below a10 g10; have x11 := cell_below a10 j10; have t11 := cell_below a10 h10; clear a10; cases ret_hid H; go_wp2_with fail; go_ret2; exact ⟨(some ⟨Y1.heap.size, 0, none⟩), 0, rfl, a11.out, z10.out⟩
 | true =>
  replace H := let_hid H; obtain ⟨t_5, ht_5, H⟩ := H; obtain rfl : t_5 = false := ht_5.symm; replace H := join_hid H; replace H := ite_f H; replace H := bind_hid H; obtain ⟨t_8, qt_8, H⟩ := H; have nt_8 : ∀ d os, Calls Try.prog 18 #[.agg #[.int .i64 x_id, .int .i64 x_day, .int .i64 x_zone, .int .i64 x_grams, .int .i64 x_paid, .int .i64 x_from_, .int .i64 x_to_, .int .i64 x_leave, .int .i64 x_arrive]] (Go.Sort.grow (redrawn k10 d) os) fun e w'' => e = .returned (.bool t_8) ∧ ∃ p : Regrown, w'' = Go.Sort.grow (redrawn k10 p.d) p.os := fun d os => Calls.regrown_of (GiIsCover.C ((PCover.Cover.mk x_id x_day x_zone x_grams x_paid x_from_ x_to_ x_leave x_arrive))  _    qt_8)
  cases t_8 with
  | false =>
   replace H := let_hid H; obtain ⟨t_9, ht_9, H⟩ := H; obtain rfl : t_9 = true := ht_9.symm; replace H := app_hid H; replace H := join_hid H; replace H := ite_t H; replace H := app_hid H; refine wp_region_quiet_below (by kernel_rfl) (by kernel_rfl) ?_
   repeat (go_big_quiet_step (first | (go_at_call 47; exact nt_4 _ _) | (go_at_call 18; exact nt_8 _ _)))
   refine wpQuiet_nil ?_; intro Y1 hY1; replace hY1 := below_class hY1; clear nt_4 nt_8; replace b10 := x10.out; clear x10; replace d10 := s10.out; clear s10; replace e10 := y10.out; clear y10; replace c10 := t10.out; clear t10; replace f10 := v10.out; clear v10; replace i10 := w10.out; clear w10; replace g10 := p10.out; clear p10; replace j10 := q10.out; clear q10; replace h10 := r10.out; clear r10; have HBY1 := Lib.hid (Below.step b11.out hY1); replace b10 := cell_below hY1 b10; replace d10 := cell_below hY1 d10; replace e10 := cell_below hY1 e10; replace c10 := cell_below hY1 c10; replace f10 := cell_below hY1 f10; replace i10 := cell_below hY1 i10; replace g10 := cell_below hY1 g10; replace j10 := cell_below hY1 j10; replace h10 := cell_below hY1 h10; clear hY1; replace H := ite_t H; obtain ⟨n10, o10⟩ : ∃ x, Y1.alloc (.cells #[] 3) = x := ⟨_, rfl⟩; have a10 : Below Y1.heap.size Y1 n10 := (by rw [← o10]; exact (Below.refl _ _).alloc (Nat.le_refl _) _); have a11 : Hid (n10.ownsRow w.heap.size 3 1 (.slice (some ⟨Y1.heap.size, 0, none⟩) 0 0) 0 []) := Lib.hid (by rw [← o10]; exact own_empty HBY1.out.size); have d11 := Lib.hid (apart_box b10); have z10 := Lib.hid (Below.step HBY1.out a10); have y11 := cell_below a10 b10; have q11 := cell_below a10 d10; have v11 := cell_below a10 e10; have h12 := cell_below a10 c10; have k12 := cell_below a10 f10; have d12 := cell_below a10 i10; have n12 := cell_below a10 g10; have n11 := cell_below a10 j10; have s12 := cell_below a10 h10; clear a10; cases ret_hid H; go_wp2_with fail; go_ret2; exact ⟨(some ⟨Y1.heap.size, 0, none⟩), 0, rfl, a11.out, z10.out⟩
  | true =>
   replace H := let_hid H; obtain ⟨t_9, ht_9, H⟩ := H; obtain rfl : t_9 = false := ht_9.symm; replace H := app_hid H; replace H := join_hid H; replace H := ite_f H; replace H := bind_hid H; obtain ⟨t_14, j11, H⟩ := H; have f11 : ∀ d os, Calls Try.prog 48 #[.slice A0 mails.length c0, .agg #[.int .i64 x_id, .int .i64 x_day, .int .i64 x_zone, .int .i64 x_grams, .int .i64 x_paid, .int .i64 x_from_, .int .i64 x_to_, .int .i64 x_leave, .int .i64 x_arrive]] (Go.Sort.grow (redrawn k10 d) os) fun e w'' => e = .returned (.int .i64 t_14) ∧ ∃ p : Regrown, w'' = Go.Sort.grow (redrawn k10 p.d) p.os := fun d os => Calls.regrown_of (GiEarliestEnd.C (mails) ((PCover.Cover.mk x_id x_day x_zone x_grams x_paid x_from_ x_to_ x_leave x_arrive)) A0 c0 _   (Lib.hid (Cells.below (Cells.below M0.out b11.out) (below_regrown _ _ _))) N0 j11); replace H := let_hid H; obtain ⟨t_17, q12, H⟩ := H; replace H := app_hid H; refine wp_region_quiet_below (by kernel_rfl) (by kernel_rfl) ?_
   repeat (go_big_quiet_step (first | (go_at_call 47; exact nt_4 _ _) | (go_at_call 18; exact nt_8 _ _) | (go_at_call 48; exact f11 _ _)))
   refine wpQuiet_nil ?_; intro Y1 hY1; replace hY1 := below_class hY1; clear nt_4 nt_8 f11; replace b10 := x10.out; clear x10; replace d10 := s10.out; clear s10; replace e10 := y10.out; clear y10; replace c10 := t10.out; clear t10; replace f10 := v10.out; clear v10; replace i10 := w10.out; clear w10; replace g10 := p10.out; clear p10; replace j10 := q10.out; clear q10; replace h10 := r10.out; clear r10; have HBY1 := Lib.hid (Below.step b11.out hY1); replace b10 := cell_below hY1 b10; replace d10 := cell_below hY1 d10; replace e10 := cell_below hY1 e10; replace c10 := cell_below hY1 c10; replace f10 := cell_below hY1 f10; replace i10 := cell_below hY1 i10; replace g10 := cell_below hY1 g10; replace j10 := cell_below hY1 j10; replace h10 := cell_below hY1 h10; clear hY1
   cases t_17 with
   | false =>
    replace H := ite_f H; replace H := bind2_hid H; obtain ⟨g12, p11, h11, H⟩ := H; go_wp2_with fail; go_at_call 49; refine (GiBestRoute.C fuel (mails) (x_from_) (x_leave) (x_to_) A0 c0 _   (Lib.hid (Cells.below M0.out HBY1.out)) N0 h11).mono ?_; rintro j12 b12 ⟨i11, k11, rfl, c11, l10⟩; have r12 := Lib.hid (apart_callbox c11 b10); have l11 := Lib.hid (own_lower c11 HBY1.out.size); clear c11; have g11 := Lib.hid (Below.step HBY1.out l10); replace b10 := cell_below l10 b10; replace d10 := cell_below l10 d10; replace e10 := cell_below l10 e10; replace c10 := cell_below l10 c10; replace f10 := cell_below l10 f10; replace i10 := cell_below l10 i10; replace g10 := cell_below l10 g10; replace j10 := cell_below l10 j10; replace h10 := cell_below l10 h10; clear l10; cases ret_hid H; go_wp2_with fail; go_ret2; exact ⟨i11, k11, rfl, l11.out, g11.out⟩
   | true =>
    replace H := ite_t H; obtain ⟨n10, o10⟩ : ∃ x, Y1.alloc (.cells #[] 3) = x := ⟨_, rfl⟩; have a10 : Below Y1.heap.size Y1 n10 := (by rw [← o10]; exact (Below.refl _ _).alloc (Nat.le_refl _) _); have a11 : Hid (n10.ownsRow w.heap.size 3 1 (.slice (some ⟨Y1.heap.size, 0, none⟩) 0 0) 0 []) := Lib.hid (by rw [← o10]; exact own_empty HBY1.out.size); have d11 := Lib.hid (apart_box b10); have z10 := Lib.hid (Below.step HBY1.out a10); have c12 := cell_below a10 b10; have s11 := cell_below a10 d10; have m11 := cell_below a10 e10; have r11 := cell_below a10 c10; have z11 := cell_below a10 f10; have t12 := cell_below a10 i10; have a12 := cell_below a10 g10; have p12 := cell_below a10 j10; have w11 := cell_below a10 h10; clear a10; cases ret_hid H; go_wp2_with fail; go_ret2; exact ⟨(some ⟨Y1.heap.size, 0, none⟩), 0, rfl, a11.out, z10.out⟩
end Go.Proofs.Ytgbcdmlcmnaimaa.GiRouteOn

namespace Go.Proofs.Ytgbcdmlcmnaimaa.GsL9Asked
open Go.RowKit
open Go.Proofs.Ytgbcdmlcmnaimaa.Rowed Go.Proofs.Ytgbcdmlcmnaimaa.Turn Go.Proofs.Ytgbcdmlcmnaimaa.Aid Go.Proofs.Ytgbcdmlcmnaimaa.GoP Go.Proofs.Ytgbcdmlcmnaimaa.GoM

def P (list : (List PMail.Mail)) (from_1 : Int) (minute : Int) : Option (Bool) :=
 Option.bind (GsL9Good.P list) fun (t_2 : Bool) =>
 joinK (fun (t_6 : Bool) =>
 joinK (fun (t_10 : Bool) =>
 some t_10) fun jt_10 => iteK t_6 (Option.bind (GsL9Minute.P minute) fun (t_9 : Bool) =>
 appK jt_10 t_9) (appK jt_10 false)) fun jt_6 => iteK t_2 (Option.bind (GsL9Office.P from_1) fun (t_5 : Bool) =>
 appK jt_6 t_5) (appK jt_6 false)

set_option maxRecDepth 100000 in
set_option maxHeartbeats 2000000 in
theorem C (list : (List PMail.Mail)) (from_1 : Int) (minute : Int) (A0 : Option Addr) (c0 : Nat)  (w : World) (M0 : Hid (Cells w 4 A0 list.length (PMail.flat list))) (N0 : Hid (list.length ≤ 9223372036854775807))  {r : Bool} (H : Hid (P list from_1 minute = some r)) :
  Calls Try.prog 99 #[.slice A0 list.length c0, .int .i64 from_1, .int .i64 minute] w (Gives (.bool r) w) := by
 have HB := Lib.hid (Below.refl w.heap.size w); unfold P at H; have N0o := N0.out
 go_enter Try.func99, Try.ntmps99
 replace H := bind_hid H; obtain ⟨t_2, qt_2, H⟩ := H; go_wp2_with fail; go_at_call 40; refine (GsL9Good.C (list) A0 c0 _   (Lib.hid (Cells.below M0.out HB.out)) N0 qt_2).mono ?_; rintro d10 wt_2 ⟨rfl, bt_2⟩; have a10 := Lib.hid (Below.step HB.out bt_2); clear bt_2; replace H := join_hid H
 cases t_2 with
 | false =>
  replace H := ite_f H; replace H := app_hid H; replace H := join_hid H; replace H := ite_f H; replace H := app_hid H; obtain rfl := ret_hid H; go_wp2_with fail; go_ret; exact ⟨rfl, a10.out⟩
 | true =>
  replace H := ite_t H; replace H := bind_hid H; obtain ⟨t_5, qt_5, H⟩ := H; go_wp2_with fail; go_at_call 74; refine (GsL9Office.C (from_1)  _    qt_5).mono ?_; rintro f10 wt_5 ⟨rfl, bt_5⟩; have b10 := Lib.hid (Below.step a10.out bt_5); clear bt_5; replace H := app_hid H; replace H := join_hid H
  cases t_5 with
  | false =>
   replace H := ite_f H; replace H := app_hid H; obtain rfl := ret_hid H; go_wp2_with fail; go_ret; exact ⟨rfl, b10.out⟩
  | true =>
   replace H := ite_t H; replace H := bind_hid H; obtain ⟨t_9, qt_9, H⟩ := H; go_wp2_with fail; go_at_call 86; refine (GsL9Minute.C (minute)  _    qt_9).mono ?_; rintro e10 wt_9 ⟨rfl, bt_9⟩; have c10 := Lib.hid (Below.step b10.out bt_9); clear bt_9; replace H := app_hid H; obtain rfl := ret_hid H; go_wp2_with fail; go_ret; exact ⟨rfl, c10.out⟩
end Go.Proofs.Ytgbcdmlcmnaimaa.GsL9Asked

namespace Go.Proofs.Ytgbcdmlcmnaimaa.GsEarliestAt
open Go.RowKit
open Go.Proofs.Ytgbcdmlcmnaimaa.Rowed Go.Proofs.Ytgbcdmlcmnaimaa.Turn Go.Proofs.Ytgbcdmlcmnaimaa.Aid Go.Proofs.Ytgbcdmlcmnaimaa.GoP Go.Proofs.Ytgbcdmlcmnaimaa.GoM

def P (list : (List PMail.Mail)) (from_1 : Int) (minute : Int) (to_3 : Int) : Option (Int × Bool) :=
 Option.bind (GsL9Asked.P list from_1 minute) fun (t_5 : Bool) =>
 letK (!t_5) fun (t_6 : Bool) =>
 joinK (fun (t_11 : Bool) =>
 iteK t_11
 (some (0, false))
 (Option.bind (GsL9Times.P list from_1 minute) fun (t_17 : (List Int)) =>
 Option.bind (idx t_17 to_3) fun (yt_19 : Int) =>
 letK (yt_19 == 10000) fun (t_23 : Bool) =>
 iteK t_23
 (some (0, false))
 (some (yt_19, true)))) fun jt_11 => iteK t_6 (appK jt_11 true) (Option.bind (GsL9Office.P to_3) fun (t_9 : Bool) =>
 letK (!t_9) fun (t_10 : Bool) =>
 appK jt_11 t_10)

set_option maxRecDepth 100000 in
set_option maxHeartbeats 2000000 in
theorem C (list : (List PMail.Mail)) (from_1 : Int) (minute : Int) (to_3 : Int) (A0 : Option Addr) (c0 : Nat)  (w : World) (M0 : Hid (Cells w 4 A0 list.length (PMail.flat list))) (N0 : Hid (list.length ≤ 9223372036854775807))  {r0 : Int} {r1 : Bool} (H : Hid (P list from_1 minute to_3 = some (r0, r1))) :
  Calls Try.prog 96 #[.slice A0 list.length c0, .int .i64 from_1, .int .i64 minute, .int .i64 to_3] w (Gives (.tuple #[.int .i64 r0, .bool r1]) w) := by
 have HB := Lib.hid (Below.refl w.heap.size w); unfold P at H; have N0o := N0.out
 go_enter Try.func96, Try.ntmps96
 replace H := bind_hid H; obtain ⟨t_5, qt_5, H⟩ := H; go_wp2_with fail; go_at_call 99; refine (GsL9Asked.C (list) (from_1) (minute) A0 c0 _   (Lib.hid (Cells.below M0.out HB.out)) N0 qt_5).mono ?_; rintro v10 wt_5 ⟨rfl, bt_5⟩; have g10 := Lib.hid (Below.step HB.out bt_5); clear bt_5
 cases t_5 with
 | false =>
  replace H := let_hid H; obtain ⟨t_6, ht_6, H⟩ := H; obtain rfl : t_6 = true := ht_6.symm; replace H := join_hid H; replace H := ite_t H; replace H := app_hid H; replace H := ite_t H; cases ret_hid H; go_wp2_with fail; go_ret2; exact ⟨rfl, g10.out⟩
 | true =>
  replace H := let_hid H; obtain ⟨t_6, ht_6, H⟩ := H; obtain rfl : t_6 = false := ht_6.symm; replace H := join_hid H; replace H := ite_f H; replace H := bind_hid H; obtain ⟨t_9, qt_9, H⟩ := H; go_wp2_with fail; go_at_call 74; refine (GsL9Office.C (to_3)  _    qt_9).mono ?_; rintro y10 wt_9 ⟨rfl, bt_9⟩; have b10 := Lib.hid (Below.step g10.out bt_9); clear bt_9
  cases t_9 with
  | false =>
   replace H := let_hid H; obtain ⟨t_10, c10, H⟩ := H; obtain rfl : t_10 = true := c10.symm; replace H := app_hid H; replace H := ite_t H; cases ret_hid H; go_wp2_with fail; go_ret2; exact ⟨rfl, b10.out⟩
  | true =>
   replace H := let_hid H; obtain ⟨t_10, c10, H⟩ := H; obtain rfl : t_10 = false := c10.symm; replace H := app_hid H; replace H := ite_f H; replace H := bind_hid H; obtain ⟨t_17, m10, H⟩ := H; go_wp2_with fail; go_at_call 87; refine (GsL9Times.C (list) (from_1) (minute) A0 c0 _   (Lib.hid (Cells.below M0.out b10.out)) N0 m10).mono ?_; rintro c11 f11 ⟨q10, x10, rfl, h10, i10⟩; have e10 := Lib.hid (own_lower h10 b10.out.size); clear h10; have j10 := Lib.hid (Below.step b10.out i10); clear i10; replace H := idx_hid H; obtain ⟨a10, p10, o10, d11, l10, H⟩ := H; subst o10; obtain ⟨r10, n10⟩ := own_some e10.out (by omega); subst n10; obtain ⟨t10, a11, w10, d10, f10, k10⟩ := HelpInt.Ints.at_ (own_cells e10.out) (k := a10) (by omega); obtain rfl := Option.some.inj (l10.out.symm.trans f10); simp only [Option.some.injEq, Addr.mk.injEq] at d10; obtain ⟨rfl, rfl, _⟩ := d10; clear f10; simp only [Nat.zero_add] at k10; have s10 : (0 : Int) ≤ (a10 : Int) := (by omega); have e11 : (a10 : Int) < ((t_17.length : Nat) : Int) := (by omega); have b11 : ((a10 : Int)).toNat = a10 := (by omega); replace H := let_hid H; obtain ⟨t_23, z10, H⟩ := H
   cases t_23 with
   | false =>
    replace H := ite_f H; cases ret_hid H; go_wp2_with fail; go_ret2; exact ⟨rfl, j10.out⟩
   | true =>
    replace H := ite_t H; cases ret_hid H; go_wp2_with fail; go_ret2; exact ⟨rfl, j10.out⟩
end Go.Proofs.Ytgbcdmlcmnaimaa.GsEarliestAt

