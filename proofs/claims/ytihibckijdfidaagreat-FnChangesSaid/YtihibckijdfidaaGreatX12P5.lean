/- Texts on which the proofs of several laws stand, one behind the other (5 of 17). No condition of their own. -/
import Derived.Test.YtihibckijdfidaaGreatChecked
import Derived.Test.YtihibckijdfidaaGreatX12P1
import Derived.WalkKit
import Derived.WalkSpells
import Derived.WalkLawsBesides
import Derived.BigQuiet
import Derived.OwnWalk
import Derived.Deep.LoopGhost
import Derived.Deep.QuietTactic
import Derived.IntWalk
import Derived.Lib.QuietBelow
import Derived.Test.YtihibckijdfidaaGreatX12P3
import Derived.Test.YtihibckijdfidaaGreatX12P4
import Derived.StillTailTactics
set_option linter.unusedVariables false
set_option linter.unusedSimpArgs false
namespace Go.Proofs.YtihibckijdfidaaGreat.GsL1In
open Go.RowKit
open Go.Proofs.YtihibckijdfidaaGreat.Rowed Go.Proofs.YtihibckijdfidaaGreat.Turn Go.Proofs.YtihibckijdfidaaGreat.Aid Go.Proofs.YtihibckijdfidaaGreat.GoP Go.Proofs.YtihibckijdfidaaGreat.GoM

def P (x : Int) (a : Int) (b : Int) : Option (Bool) :=
  letK (decide (a ≤ x)) fun (t_3 : Bool) =>
  joinK (fun (t_8 : Bool) =>
  some t_8) fun jt_8 => iteK t_3 (letK (decide (x ≤ b)) fun (t_7 : Bool) =>
  appK jt_8 t_7) (appK jt_8 false)

set_option maxRecDepth 100000 in
set_option maxHeartbeats 2000000 in
theorem C (x : Int) (a : Int) (b : Int)   (w : World)   {r : Bool} (H : Hid (P x a b = some r)) :
    Calls Tryz.prog 52 #[.int .i64 x, .int .i64 a, .int .i64 b] w (Gives (.bool r) w) := by
  have HB := Lib.hid (Below.refl w.heap.size w)
  unfold P at H
  go_enter Tryz.func52, Tryz.ntmps52
  replace H := let_hid H
  obtain ⟨t_3, ht_3, H⟩ := H
  replace H := join_hid H
  cases t_3 with
  | false =>
    replace H := ite_f H
    replace H := app_hid H
    obtain rfl := ret_hid H
    go_wp2_with fail
    go_ret
    exact ⟨rfl, HB.out⟩
  | true =>
    replace H := ite_t H
    replace H := let_hid H
    obtain ⟨t_7, ht_7, H⟩ := H
    replace H := app_hid H
    obtain rfl := ret_hid H
    go_wp2_with fail
    go_ret
    exact ⟨rfl, HB.out⟩

set_option maxRecDepth 100000 in
set_option maxHeartbeats 2000000 in
theorem C0 (x : Int) (a : Int) (b : Int)   (w : World)   {r : Bool} (H : Hid (P x a b = some r)) :
    Calls Tryz.prog 52 #[.int .i64 x, .int .i64 a, .int .i64 b] w (fun e w'' => e = .returned (.bool r) ∧ w'' = w) := by
  have HB := Lib.hid (Below.refl w.heap.size w)
  unfold P at H
  go_enter Tryz.func52, Tryz.ntmps52
  replace H := let_hid H
  obtain ⟨t_3, ht_3, H⟩ := H
  replace H := join_hid H
  cases t_3 with
  | false =>
    replace H := ite_f H
    replace H := app_hid H
    obtain rfl := ret_hid H
    go_wp2_with fail
    go_ret
    exact ⟨rfl, rfl⟩
  | true =>
    replace H := ite_t H
    replace H := let_hid H
    obtain ⟨t_7, ht_7, H⟩ := H
    replace H := app_hid H
    obtain rfl := ret_hid H
    go_wp2_with fail
    go_ret
    exact ⟨rfl, rfl⟩
end Go.Proofs.YtihibckijdfidaaGreat.GsL1In

namespace Go.Proofs.YtihibckijdfidaaGreat.GsL8For
open Go.RowKit
open Go.Proofs.YtihibckijdfidaaGreat.Rowed Go.Proofs.YtihibckijdfidaaGreat.Turn Go.Proofs.YtihibckijdfidaaGreat.Aid Go.Proofs.YtihibckijdfidaaGreat.GoP Go.Proofs.YtihibckijdfidaaGreat.GoM

def l0 (list : (List PRate.Rate)) (day : Int) (zone : Int) (grams : Int) (k0 : Nat) (s : Unit) (nx0 bk0 : Unit → Option (Int)) : Option (Int) :=
 
 Option.bind (idx list (k0 : Int)) fun (yt_8 : PRate.Rate) =>
 unRate yt_8 fun (t_8_zone : Int) (t_8_grams : Int) (t_8_from_ : Int) (t_8_until_ : Int) (t_8_cents : Int) =>
 letK (t_8_zone == zone) fun (t_15 : Bool) =>
 joinK (fun (t_21 : Bool) =>
 joinK (fun (t_29 : Bool) =>
 iteK t_29
 (some t_8_cents)
 (appK nx0 ())) fun jt_29 => iteK t_21 (Option.bind (GsL1In.P day t_8_from_ t_8_until_) fun (t_28 : Bool) =>
 appK jt_29 t_28) (appK jt_29 false)) fun jt_21 => iteK t_15 (letK (decide (grams ≤ t_8_grams)) fun (t_20 : Bool) =>
 appK jt_21 t_20) (appK jt_21 false)

def e0  (s : Unit) : Option (Int) :=
 
 some 0

def P (list : (List PRate.Rate)) (day : Int) (zone : Int) (grams : Int) : Option (Int) :=
 cntK (l0 list day zone grams) (list.length) 0 () (e0 )

set_option maxRecDepth 100000 in
set_option maxHeartbeats 2000000 in
theorem C (list : (List PRate.Rate)) (day : Int) (zone : Int) (grams : Int) (A0 : Option Addr) (c0 : Nat)  (w : World) (M0 : Hid (Cells w 5 A0 list.length (PRate.flat list))) (N0 : Hid (list.length ≤ 9223372036854775807))  {r : Int} (H : Hid (P list day zone grams = some r)) :
  Calls Tryz.prog 82 #[.slice A0 list.length c0, .int .i64 day, .int .i64 zone, .int .i64 grams] w (Gives (.int .i64 r) w) := by
 have HB := Lib.hid (Below.refl w.heap.size w); unfold P at H; have N0o := N0.out
 go_enter Tryz.func82, Tryz.ntmps82
 go_wp2_with fail; go_loopg [9] (list.length) (fun m_ v9_ wr => ∃ (k0 : Nat) , k0 + m_ = list.length ∧ v9_ = .int .i64 (k0 : Int) ∧ Hid (cntK (l0 list day zone grams) m_ k0 () (e0 ) = some r) ∧ Hid (Below w.heap.size w wr))
 case atStart => exact ⟨0, by omega, rfl, H, HB⟩
 case round =>
  obtain ⟨k0, hkm0, rfl, H, c10⟩ := hrel; rename World => wr0
  cases gk with
  | zero =>
   obtain rfl : k0 = list.length := (by omega); have hc0 : decide (((list.length : Nat) : Int) < ((list.length : Nat) : Int)) = false := (by simp); replace H := cnt_zero H; unfold e0 at H; obtain rfl := ret_hid H; go_wp2_with fail; go_ret; exact ⟨rfl, c10.out⟩
  | succ m0 =>
   have hlt0 : k0 < list.length := (by omega); have hc0 : decide ((k0 : Int) < ((list.length : Nat) : Int)) = true := (by simp; omega); replace H := cnt_succ H; unfold l0 at H; replace H := idx_hid H; obtain ⟨nt_8, yt_8, et_8, lt_8, gt_8, H⟩ := H; obtain rfl : k0 = nt_8 := (by omega); clear et_8; obtain ⟨v10, q10, m10, k10, y10⟩ := yt_8; replace H := unRate_hid H; obtain ⟨e11, k11, zt_8, At_8, b11, d10, e10, g10, j10, i10⟩ := ORate.at_ M0.out lt_8; obtain rfl := Option.some.inj (gt_8.out.symm.trans b11); subst At_8; have l11 := cell_lt d10; replace d10 := cell_below c10.out d10; replace e10 := cell_below c10.out e10; replace g10 := cell_below c10.out g10; replace j10 := cell_below c10.out j10; replace i10 := cell_below c10.out i10; clear b11; have m11 : (0 : Int) ≤ (k0 : Int) := (by omega); have g11 : (k0 : Int) < ((list.length : Nat) : Int) := (by omega); have h11 : ((k0 : Int)).toNat = k0 := (by omega); obtain ⟨f10, h10⟩ : ∃ x, wr0.alloc (.cells #[.int .i64 v10, .int .i64 q10, .int .i64 m10, .int .i64 k10, .int .i64 y10] 88) = x := ⟨_, rfl⟩; have b10 : Below wr0.heap.size wr0 f10 := (by rw [← h10]; exact (Below.refl _ _).alloc (Nat.le_refl _) _); have l10 := Lib.hid (Below.step c10.out b10); have a11 := cell_below b10 d10; have x10 := cell_below b10 e10; have w10 := cell_below b10 g10; have s10 := cell_below b10 j10; have n10 := cell_below b10 i10; clear b10; have c11 : f10.cell? ⟨wr0.heap.size, 0, none⟩ = some (.int .i64 v10) := (by rw [← h10]; exact box_new _ _ _ 0 _ rfl); have r10 : f10.cell? ⟨wr0.heap.size, 1, none⟩ = some (.int .i64 q10) := (by rw [← h10]; exact box_new _ _ _ 1 _ rfl); have p10 : f10.cell? ⟨wr0.heap.size, 2, none⟩ = some (.int .i64 m10) := (by rw [← h10]; exact box_new _ _ _ 2 _ rfl); have o10 : f10.cell? ⟨wr0.heap.size, 3, none⟩ = some (.int .i64 k10) := (by rw [← h10]; exact box_new _ _ _ 3 _ rfl); have t10 : f10.cell? ⟨wr0.heap.size, 4, none⟩ = some (.int .i64 y10) := (by rw [← h10]; exact box_new _ _ _ 4 _ rfl); replace H := let_hid H; obtain ⟨t_15, n11, H⟩ := H; replace H := join_hid H
   cases t_15 with
   | false =>
    replace H := ite_f H; replace H := app_hid H; replace H := join_hid H; replace H := ite_f H; replace H := app_hid H; replace H := ite_f H; replace H := app_hid H; go_wp2_with fail; clear d10 e10 g10 j10 i10
    go_roundg m0
    case measure => omega
    case rel => exact ⟨k0 + 1, by omega, by go_num, H, l10⟩
   | true =>
    replace H := ite_t H; replace H := let_hid H; obtain ⟨t_20, i11, H⟩ := H; replace H := app_hid H; replace H := join_hid H
    cases t_20 with
    | false =>
     replace H := ite_f H; replace H := app_hid H; replace H := ite_f H; replace H := app_hid H; go_wp2_with fail; clear d10 e10 g10 j10 i10
     go_roundg m0
     case measure => omega
     case rel => exact ⟨k0 + 1, by omega, by go_num, H, l10⟩
    | true =>
     replace H := ite_t H; replace H := bind_hid H; obtain ⟨t_28, d11, H⟩ := H; go_wp2_with fail; clear d10 e10 g10 j10 i10; go_at_call 52; refine (GsL1In.C (day) (m10) (k10)  _    d11).mono ?_; rintro j11 f11 ⟨rfl, a10⟩; have z10 := Lib.hid (Below.step l10.out a10); replace a11 := cell_below a10 a11; replace x10 := cell_below a10 x10; replace w10 := cell_below a10 w10; replace s10 := cell_below a10 s10; replace n10 := cell_below a10 n10; replace c11 := cell_below a10 c11; replace r10 := cell_below a10 r10; replace p10 := cell_below a10 p10; replace o10 := cell_below a10 o10; replace t10 := cell_below a10 t10; clear a10; replace H := app_hid H
     cases t_28 with
     | false =>
      replace H := ite_f H; replace H := app_hid H; go_wp2_with fail
      go_roundg m0
      case measure => omega
      case rel => exact ⟨k0 + 1, by omega, by go_num, H, z10⟩
     | true =>
      replace H := ite_t H; obtain rfl := ret_hid H; go_wp2_with fail; go_ret; exact ⟨rfl, z10.out⟩
end Go.Proofs.YtihibckijdfidaaGreat.GsL8For

namespace Go.Proofs.YtihibckijdfidaaGreat.GsL1CurExplained
open Go.RowKit
open Go.Proofs.YtihibckijdfidaaGreat.Rowed Go.Proofs.YtihibckijdfidaaGreat.Turn Go.Proofs.YtihibckijdfidaaGreat.Aid Go.Proofs.YtihibckijdfidaaGreat.GoP Go.Proofs.YtihibckijdfidaaGreat.GoM

def j0 (t_3 : (List PRate.Rate)) (t_23_tp : GoC.Tape) (s : Int × Int × Int × Int × Int × Int × Int × Int × Int) : Option ((List PRate.Rate) × PCover.Cover × GoC.Tape) :=
 unp9 s fun x_6_c0j0 x_6_c1j0 x_6_c2j0 x_6_c3j0 x_6_c4j0 x_6_c5j0 x_6_c6j0 x_6_c7j0 x_6_c8j0 =>
 some (t_3, (PCover.Cover.mk x_6_c0j0 x_6_c1j0 x_6_c2j0 x_6_c3j0 x_6_c4j0 x_6_c5j0 x_6_c6j0 x_6_c7j0 x_6_c8j0), t_23_tp)

def P (fuel : Nat) (c : GoC.Tape) : Option ((List PRate.Rate) × PCover.Cover × GoC.Tape) :=
 bind2 (GsL1CurRates.P fuel c) fun (t_3 : (List PRate.Rate)) (t_3_tp : GoC.Tape) =>
 bind2 (GsL1CurCover.P t_3_tp 7) fun (t_5 : PCover.Cover) (t_5_tp : GoC.Tape) =>
 unCover t_5 fun (t_5_id : Int) (t_5_day : Int) (t_5_zone : Int) (t_5_grams : Int) (t_5_paid : Int) (t_5_from_ : Int) (t_5_to_ : Int) (t_5_leave : Int) (t_5_arrive : Int) =>
 Option.bind (GsL8For.P t_3 t_5_day t_5_zone t_5_grams) fun (t_16 : Int) =>
 letK (decide (0 < t_16)) fun (t_19 : Bool) =>
 joinK (fun (st_23 : Bool × GoC.Tape) => unp2 st_23 fun t_23 t_23_tp =>
 iteK t_23
 (j0 t_3 t_23_tp (t_5_id, t_5_day, t_5_zone, t_5_grams, t_16, t_5_from_, t_5_to_, t_5_leave, t_5_arrive))
 (j0 t_3 t_23_tp (t_5_id, t_5_day, t_5_zone, t_5_grams, t_5_paid, t_5_from_, t_5_to_, t_5_leave, t_5_arrive))) fun jt_23 => iteK t_19 (bind2 (GsL1CurOne.P t_5_tp 3) fun (t_22 : Bool) (t_22_tp : GoC.Tape) =>
 appK jt_23 (t_22, t_22_tp)) (appK jt_23 (false, t_5_tp))

set_option maxRecDepth 100000 in
set_option maxHeartbeats 2000000 in
theorem C (fuel : Nat) (c : GoC.Tape)   (g0 : Nat) (Ac0 : Option Addr) (cc0 : Nat) (bc0 : Nat) (w : World)   (K0 : Hid (GoC.CurIs w bc0 g0 Ac0 cc0 c)) {r0 : (List PRate.Rate)} {r1 : PCover.Cover} {t_ : GoC.Tape} (H : Hid (P fuel c = some (r0, r1, t_))) :
  Calls Tryz.prog 50 #[.pointer (some ⟨g0, 0, none⟩)] w (fun e w' => ∃ A_r0 c_r0, e = .returned (.tuple #[.slice A_r0 r0.length c_r0, (PCover.Cover.val r1)]) ∧ w'.ownsRow w.heap.size 88 5 (.slice A_r0 r0.length c_r0) r0.length (PRate.flat r0) ∧ GoC.CurIs w' bc0 g0 Ac0 cc0 t_ ∧ w.grownBy w' (Value.slice (some ⟨g0, 0, none⟩) 1 1).ownBlock) := by
 have HB := Lib.hid (Aid.grown_refl w (Value.slice (some ⟨g0, 0, none⟩) 1 1).ownBlock); unfold P at H; have L0 : bc0 ≤ w.heap.size := (by have := GoC.cur_lt K0.out; omega)
 go_enter Tryz.func50, Tryz.ntmps50
 obtain ⟨v10, c11⟩ : ∃ x, w.alloc (.cells #[.int .i64 0, .int .i64 0, .int .i64 0, .int .i64 0, .int .i64 0, .int .i64 0, .int .i64 0, .int .i64 0, .int .i64 0] 26) = x := ⟨_, rfl⟩; have s12 : Below w.heap.size w v10 := (by rw [← c11]; exact (Below.refl _ _).alloc (Nat.le_refl _) _); have d10 := Lib.hid (GoC.apart_cur K0.out); have b13 := Lib.hid (grown_below HB.out s12); replace K0 := Lib.hid (GoC.cur_below K0.out s12); clear s12; have v11 : v10.cell? ⟨w.heap.size, 0, none⟩ = some (.int .i64 0) := (by rw [← c11]; exact box_new _ _ _ 0 _ rfl); have z11 : v10.cell? ⟨w.heap.size, 1, none⟩ = some (.int .i64 0) := (by rw [← c11]; exact box_new _ _ _ 1 _ rfl); have d12 : v10.cell? ⟨w.heap.size, 2, none⟩ = some (.int .i64 0) := (by rw [← c11]; exact box_new _ _ _ 2 _ rfl); have b12 : v10.cell? ⟨w.heap.size, 3, none⟩ = some (.int .i64 0) := (by rw [← c11]; exact box_new _ _ _ 3 _ rfl); have g12 : v10.cell? ⟨w.heap.size, 4, none⟩ = some (.int .i64 0) := (by rw [← c11]; exact box_new _ _ _ 4 _ rfl); have a12 : v10.cell? ⟨w.heap.size, 5, none⟩ = some (.int .i64 0) := (by rw [← c11]; exact box_new _ _ _ 5 _ rfl); have e12 : v10.cell? ⟨w.heap.size, 6, none⟩ = some (.int .i64 0) := (by rw [← c11]; exact box_new _ _ _ 6 _ rfl); have y11 : v10.cell? ⟨w.heap.size, 7, none⟩ = some (.int .i64 0) := (by rw [← c11]; exact box_new _ _ _ 7 _ rfl); have f12 : v10.cell? ⟨w.heap.size, 8, none⟩ = some (.int .i64 0) := (by rw [← c11]; exact box_new _ _ _ 8 _ rfl); have Ot_1 : Hid (v10.ownsRow w.heap.size 26 9 (.slice (some ⟨w.heap.size, 0, none⟩) 1 1) 1 [.int .i64 0, .int .i64 0, .int .i64 0, .int .i64 0, .int .i64 0, .int .i64 0, .int .i64 0, .int .i64 0, .int .i64 0]) := Lib.hid (by rw [← c11]; exact own_laid (n := 1) HB.out.size rfl rfl (by unfold maxLen; omega)); replace H := bind2_hid H; obtain ⟨t_3, a14, qt_3, H⟩ := H; go_wp2_with fail; go_at_call 85; refine (GsL1CurRates.C fuel (c) (g0) (Ac0) (cc0) (bc0) _   K0 qt_3).mono ?_; rintro t15 wt_3 ⟨At_3, ct_3, rfl, ot_3, kt_3, gt_3⟩; have r12 := Lib.hid (apart_callbox ot_3 v11); have n13 := Lib.hid (GoC.apart_callcur ot_3 K0.out); have Ot_3 := Lib.hid (own_lower ot_3 b13.out.size); clear ot_3; have Kt_3 := Lib.hid kt_3; have Gt_3 : Hid (v10.grownBy wt_3 (Value.slice (some ⟨g0, 0, none⟩) 1 1).ownBlock) := Lib.hid gt_3; clear kt_3 gt_3; have v14 := Lib.hid (Aid.grown_tr b13.out Gt_3.out); replace v11 := cell_other v11 Gt_3.out (Apart.symm d10.out); replace z11 := cell_other z11 Gt_3.out (Apart.symm d10.out); replace d12 := cell_other d12 Gt_3.out (Apart.symm d10.out); replace b12 := cell_other b12 Gt_3.out (Apart.symm d10.out); replace g12 := cell_other g12 Gt_3.out (Apart.symm d10.out); replace a12 := cell_other a12 Gt_3.out (Apart.symm d10.out); replace e12 := cell_other e12 Gt_3.out (Apart.symm d10.out); replace y11 := cell_other y11 Gt_3.out (Apart.symm d10.out); replace f12 := cell_other f12 Gt_3.out (Apart.symm d10.out); replace Ot_1 := Lib.hid (own_other Ot_1.out Gt_3.out (Apart.symm d10.out)); clear K0 Gt_3; replace H := bind2_hid H; obtain ⟨t_5, z14, qt_5, H⟩ := H; obtain ⟨k10, h10, i10, j10, t10, n10, l10, m10, o10⟩ := t_5; replace H := unCover_hid H; go_wp2_with fail; go_at_call 60; refine (GsL1CurCover.C (a14) (7) (g0) (Ac0) (cc0) (bc0) _   Kt_3 qt_5).mono ?_; rintro w15 wt_5 ⟨rfl, kt_5, gt_5⟩; unfold PCover.Cover.val; have Kt_5 := Lib.hid kt_5; have Gt_5 : Hid (wt_3.grownBy wt_5 (Value.slice (some ⟨g0, 0, none⟩) 1 1).ownBlock) := Lib.hid gt_5; clear kt_5 gt_5; have r13 := Lib.hid (Aid.grown_tr v14.out Gt_5.out); replace v11 := cell_other v11 Gt_5.out (Apart.symm d10.out); replace z11 := cell_other z11 Gt_5.out (Apart.symm d10.out); replace d12 := cell_other d12 Gt_5.out (Apart.symm d10.out); replace b12 := cell_other b12 Gt_5.out (Apart.symm d10.out); replace g12 := cell_other g12 Gt_5.out (Apart.symm d10.out); replace a12 := cell_other a12 Gt_5.out (Apart.symm d10.out); replace e12 := cell_other e12 Gt_5.out (Apart.symm d10.out)
 replace y11 := cell_other y11 Gt_5.out (Apart.symm d10.out); replace f12 := cell_other f12 Gt_5.out (Apart.symm d10.out); replace Ot_1 := Lib.hid (own_other Ot_1.out Gt_5.out (Apart.symm d10.out)); replace Ot_3 := Lib.hid (own_other Ot_3.out Gt_5.out (Apart.symm n13.out)); clear Kt_3 Gt_5; obtain ⟨h11, a11⟩ : ∃ x, wt_5.alloc (.cells #[.int .i64 k10, .int .i64 h10, .int .i64 i10, .int .i64 j10, .int .i64 t10, .int .i64 n10, .int .i64 l10, .int .i64 m10, .int .i64 o10] 26) = x := ⟨_, rfl⟩; have r10 : Below wt_5.heap.size wt_5 h11 := (by rw [← a11]; exact (Below.refl _ _).alloc (Nat.le_refl _) _); have a15 := Lib.hid (apart_fresh Ot_3.out); have y10 := Lib.hid (GoC.apart_cur Kt_5.out); have b10 := Lib.hid (apart_box v11); have i14 := Lib.hid (grown_below r13.out r10); have q11 := cell_below r10 v11; have p11 := cell_below r10 z11; have o11 := cell_below r10 d12; have n11 := cell_below r10 b12; have l11 := cell_below r10 g12; have t11 := cell_below r10 a12; have m11 := cell_below r10 e12; have s11 := cell_below r10 y11; have r11 := cell_below r10 f12; replace Ot_3 := Lib.hid (own_below Ot_3.out r10); replace Kt_5 := Lib.hid (GoC.cur_below Kt_5.out r10); replace Ot_1 := Lib.hid (own_below Ot_1.out r10); clear r10; have d11 : h11.cell? ⟨wt_5.heap.size, 0, none⟩ = some (.int .i64 k10) := (by rw [← a11]; exact box_new _ _ _ 0 _ rfl); have g11 : h11.cell? ⟨wt_5.heap.size, 1, none⟩ = some (.int .i64 h10) := (by rw [← a11]; exact box_new _ _ _ 1 _ rfl); have k11 : h11.cell? ⟨wt_5.heap.size, 2, none⟩ = some (.int .i64 i10) := (by rw [← a11]; exact box_new _ _ _ 2 _ rfl); have e11 : h11.cell? ⟨wt_5.heap.size, 3, none⟩ = some (.int .i64 j10) := (by rw [← a11]; exact box_new _ _ _ 3 _ rfl); have f11 : h11.cell? ⟨wt_5.heap.size, 4, none⟩ = some (.int .i64 t10) := (by rw [← a11]; exact box_new _ _ _ 4 _ rfl); have j11 : h11.cell? ⟨wt_5.heap.size, 5, none⟩ = some (.int .i64 n10) := (by rw [← a11]; exact box_new _ _ _ 5 _ rfl); have z10 : h11.cell? ⟨wt_5.heap.size, 6, none⟩ = some (.int .i64 l10) := (by rw [← a11]; exact box_new _ _ _ 6 _ rfl); have x10 : h11.cell? ⟨wt_5.heap.size, 7, none⟩ = some (.int .i64 m10) := (by rw [← a11]; exact box_new _ _ _ 7 _ rfl); have b11 : h11.cell? ⟨wt_5.heap.size, 8, none⟩ = some (.int .i64 o10) := (by rw [← a11]; exact box_new _ _ _ 8 _ rfl); have Ox_6 : Hid (h11.ownsRow w.heap.size 26 9 (.slice (some ⟨wt_5.heap.size, 0, none⟩) 1 1) 1 [.int .i64 k10, .int .i64 h10, .int .i64 i10, .int .i64 j10, .int .i64 t10, .int .i64 n10, .int .i64 l10, .int .i64 m10, .int .i64 o10]) := Lib.hid (by rw [← a11]; exact own_laid (n := 1) r13.out.size rfl rfl (by unfold maxLen; omega)); replace H := bind_hid H; obtain ⟨t_16, n14, H⟩ := H; go_wp2_with fail; clear v11 z11 d12 b12 g12 a12 e12 y11 f12; go_at_call 82; refine (GsL8For.C (t_3) (h10) (i10) (j10) At_3 ct_3 _   (Lib.hid (own_cells Ot_3.out)) (Lib.hid (own_max Ot_3.out)) n14).mono ?_; rintro h15 c12 ⟨rfl, f10⟩; have k13 := Lib.hid (grown_below i14.out f10); replace q11 := cell_below f10 q11; replace p11 := cell_below f10 p11; replace o11 := cell_below f10 o11; replace n11 := cell_below f10 n11; replace l11 := cell_below f10 l11; replace t11 := cell_below f10 t11; replace m11 := cell_below f10 m11; replace s11 := cell_below f10 s11; replace r11 := cell_below f10 r11; replace d11 := cell_below f10 d11; replace g11 := cell_below f10 g11; replace k11 := cell_below f10 k11; replace e11 := cell_below f10 e11; replace f11 := cell_below f10 f11; replace j11 := cell_below f10 j11; replace z10 := cell_below f10 z10; replace x10 := cell_below f10 x10; replace b11 := cell_below f10 b11; replace Ot_3 := Lib.hid (own_below Ot_3.out f10); replace Kt_5 := Lib.hid (GoC.cur_below Kt_5.out f10); replace Ot_1 := Lib.hid (own_below Ot_1.out f10); replace Ox_6 := Lib.hid (own_below Ox_6.out f10); clear f10; replace H := let_hid H; obtain ⟨t_19, c16, H⟩ := H; replace H := join_hid H
 cases t_19 with
 | false =>
  replace H := ite_f H; replace H := app_hid H; replace H := unp2_hid H; replace H := ite_f H; unfold j0 at H; replace H := unp9_hid H; go_wp2_with fail; obtain ⟨Z5, hZ5⟩ : ∃ x, c12.drew = x := ⟨_, rfl⟩; have bd5 : Below c12.heap.size c12 Z5 := (by rw [← hZ5]; exact (Below.refl _ _).drew); have HBZ5 := Lib.hid (grown_below k13.out bd5); replace q11 := cell_below bd5 q11; replace p11 := cell_below bd5 p11; replace o11 := cell_below bd5 o11; replace n11 := cell_below bd5 n11; replace l11 := cell_below bd5 l11; replace t11 := cell_below bd5 t11; replace m11 := cell_below bd5 m11; replace s11 := cell_below bd5 s11; replace r11 := cell_below bd5 r11; replace d11 := cell_below bd5 d11; replace g11 := cell_below bd5 g11; replace k11 := cell_below bd5 k11; replace e11 := cell_below bd5 e11; replace f11 := cell_below bd5 f11; replace j11 := cell_below bd5 j11; replace z10 := cell_below bd5 z10; replace x10 := cell_below bd5 x10; replace b11 := cell_below bd5 b11; replace Ot_3 := Lib.hid (own_below Ot_3.out bd5); replace Kt_5 := Lib.hid (GoC.cur_below Kt_5.out bd5); replace Ot_1 := Lib.hid (own_below Ot_1.out bd5); replace Ox_6 := Lib.hid (own_below Ox_6.out bd5); clear bd5; refine wp_region_still_tail 3 (by kernel_rfl) (by kernel_rfl) ?_; simp only [List.take_succ_cons, List.take_zero, List.drop_succ_cons, List.drop_zero]; change wpStill _ _ c12.drew _ _ _; rw [hZ5]
  repeat still_step
  refine wpStill_nil ?_; change wpList _ _ _ _ _ c12.drew; rw [hZ5]; clear hZ5; obtain ⟨c10, w11⟩ : ∃ x, (((((((((Z5).setCell ⟨w.heap.size, 0, none⟩ (.int .i64 k10)).setCell ⟨w.heap.size, 1, none⟩ (.int .i64 h10)).setCell ⟨w.heap.size, 2, none⟩ (.int .i64 i10)).setCell ⟨w.heap.size, 3, none⟩ (.int .i64 j10)).setCell ⟨w.heap.size, 4, none⟩ (.int .i64 t10)).setCell ⟨w.heap.size, 5, none⟩ (.int .i64 n10)).setCell ⟨w.heap.size, 6, none⟩ (.int .i64 l10)).setCell ⟨w.heap.size, 7, none⟩ (.int .i64 m10)).setCell ⟨w.heap.size, 8, none⟩ (.int .i64 o10) = x := ⟨_, rfl⟩; have v13 := Ot_1.out.frozenAt 0; have h13 := Ot_1.out.frozenAt 1; have w12 := Ot_1.out.frozenAt 2; have x12 := Ot_1.out.frozenAt 3; have d13 := Ot_1.out.frozenAt 4; have y12 := Ot_1.out.frozenAt 5; have g13 := Ot_1.out.frozenAt 6; have m13 := Ot_1.out.frozenAt 7; have e13 := Ot_1.out.frozenAt 8; have i11 := Lib.hid (own_stores [(0, .int .i64 k10), (1, .int .i64 h10), (2, .int .i64 i10), (3, .int .i64 j10), (4, .int .i64 t10), (5, .int .i64 n10), (6, .int .i64 l10), (7, .int .i64 m10), (8, .int .i64 o10)] Ot_1.out); have e10 : Hid (c10.ownsRow w.heap.size 26 9 (.slice (some ⟨w.heap.size, 0, none⟩) 1 1) 1 [.int .i64 k10, .int .i64 h10, .int .i64 i10, .int .i64 j10, .int .i64 t10, .int .i64 n10, .int .i64 l10, .int .i64 m10, .int .i64 o10]) := Lib.hid (by rw [← w11]; exact i11.out.1); have a10 : Hid (Z5.grownBy c10 (Value.slice (some ⟨w.heap.size, 0, none⟩) 1 1).ownBlock) := Lib.hid (by rw [← w11]; exact i11.out.2); have h12 := Lib.hid (GoC.grown_new HBZ5.out a10.out (GoC.own_ge Ot_1.out)); clear i11; have l16 := cell_other d11 a10.out (Apart.symm b10.out); have i16 := cell_other g11 a10.out (Apart.symm b10.out); have n15 := cell_other k11 a10.out (Apart.symm b10.out); have j15 := cell_other e11 a10.out (Apart.symm b10.out); have x15 := cell_other f11 a10.out (Apart.symm b10.out); have i15 := cell_other j11 a10.out (Apart.symm b10.out); have k16 := cell_other z10 a10.out (Apart.symm b10.out); have g16 := cell_other x10 a10.out (Apart.symm b10.out); have p15 := cell_other b11 a10.out (Apart.symm b10.out); replace Ox_6 := Lib.hid (own_other Ox_6.out a10.out (Apart.symm b10.out)); replace Ot_3 := Lib.hid (own_other Ot_3.out a10.out (Apart.symm r12.out)); replace Kt_5 := Lib.hid (GoC.cur_otherO Kt_5.out a10.out d10.out L0 Ot_1.out); clear Ot_1 a10; have x13 : c10.cell? ⟨w.heap.size, 0, none⟩ = some (.int .i64 k10) := e10.out.cells rfl 0 _ rfl; have t14 : c10.cell? ⟨w.heap.size, 1, none⟩ = some (.int .i64 h10) := e10.out.cells rfl 1 _ rfl; have j14 : c10.cell? ⟨w.heap.size, 2, none⟩ = some (.int .i64 i10) := e10.out.cells rfl 2 _ rfl; have f15 : c10.cell? ⟨w.heap.size, 3, none⟩ = some (.int .i64 j10) := e10.out.cells rfl 3 _ rfl; have s14 : c10.cell? ⟨w.heap.size, 4, none⟩ = some (.int .i64 t10) := e10.out.cells rfl 4 _ rfl; have h14 : c10.cell? ⟨w.heap.size, 5, none⟩ = some (.int .i64 n10) := e10.out.cells rfl 5 _ rfl; have g14 : c10.cell? ⟨w.heap.size, 6, none⟩ = some (.int .i64 l10) := e10.out.cells rfl 6 _ rfl; have w14 : c10.cell? ⟨w.heap.size, 7, none⟩ = some (.int .i64 m10) := e10.out.cells rfl 7 _ rfl; have l14 : c10.cell? ⟨w.heap.size, 8, none⟩ = some (.int .i64 o10) := e10.out.cells rfl 8 _ rfl; have hR_ := ret_hid H; simp only [Prod.mk.injEq] at hR_; obtain ⟨rfl, rfl, rfl⟩ := hR_; go_wp2_with fail
  (try simp only [Exit.inBlock, Exit.then])
  refine bodyPost_ret (v := .tuple #[.slice At_3 t_3.length ct_3, .agg #[.int .i64 k10, .int .i64 h10, .int .i64 i10, .int .i64 j10, .int .i64 t10, .int .i64 n10, .int .i64 l10, .int .i64 m10, .int .i64 o10]]) ?hr_ ?hd_ ?_
  case hd_ => rfl
  case hr_ => simp [results, Tryz.results50, x13, t14, j14, f15, s14, h14, g14, w14, l14, go_sem]
  exact ⟨At_3, ct_3, rfl, Ot_3.out, Kt_5.out, h12.out⟩
 | true =>
  replace H := ite_t H; replace H := bind2_hid H; obtain ⟨t_22, d16, e14, H⟩ := H; go_wp2_with fail; go_at_call 86; refine (GsL1CurOne.C (z14) (3) (g0) (Ac0) (cc0) (bc0) _   Kt_5 e14).mono ?_; rintro m15 x11 ⟨rfl, z12, q13⟩; have w10 := Lib.hid z12; have g10 : Hid (c12.grownBy x11 (Value.slice (some ⟨g0, 0, none⟩) 1 1).ownBlock) := Lib.hid q13; clear z12 q13; have f13 := Lib.hid (Aid.grown_tr k13.out g10.out); replace q11 := cell_other q11 g10.out (Apart.symm d10.out); replace p11 := cell_other p11 g10.out (Apart.symm d10.out); replace o11 := cell_other o11 g10.out (Apart.symm d10.out); replace n11 := cell_other n11 g10.out (Apart.symm d10.out); replace l11 := cell_other l11 g10.out (Apart.symm d10.out); replace t11 := cell_other t11 g10.out (Apart.symm d10.out); replace m11 := cell_other m11 g10.out (Apart.symm d10.out); replace s11 := cell_other s11 g10.out (Apart.symm d10.out); replace r11 := cell_other r11 g10.out (Apart.symm d10.out); replace d11 := cell_other d11 g10.out (Apart.symm y10.out); replace g11 := cell_other g11 g10.out (Apart.symm y10.out); replace k11 := cell_other k11 g10.out (Apart.symm y10.out); replace e11 := cell_other e11 g10.out (Apart.symm y10.out); replace f11 := cell_other f11 g10.out (Apart.symm y10.out); replace j11 := cell_other j11 g10.out (Apart.symm y10.out); replace z10 := cell_other z10 g10.out (Apart.symm y10.out); replace x10 := cell_other x10 g10.out (Apart.symm y10.out); replace b11 := cell_other b11 g10.out (Apart.symm y10.out); replace Ot_1 := Lib.hid (own_other Ot_1.out g10.out (Apart.symm d10.out)); replace Ox_6 := Lib.hid (own_other Ox_6.out g10.out (Apart.symm y10.out)); replace Ot_3 := Lib.hid (own_other Ot_3.out g10.out (Apart.symm n13.out)); clear Kt_5 g10; replace H := app_hid H; replace H := unp2_hid H
  cases t_22 with
  | false =>
   replace H := ite_f H; unfold j0 at H; replace H := unp9_hid H; go_wp2_with fail; obtain ⟨Z5, hZ5⟩ : ∃ x, x11.drew = x := ⟨_, rfl⟩; have bd5 : Below x11.heap.size x11 Z5 := (by rw [← hZ5]; exact (Below.refl _ _).drew); have HBZ5 := Lib.hid (grown_below f13.out bd5); replace q11 := cell_below bd5 q11; replace p11 := cell_below bd5 p11; replace o11 := cell_below bd5 o11; replace n11 := cell_below bd5 n11; replace l11 := cell_below bd5 l11; replace t11 := cell_below bd5 t11; replace m11 := cell_below bd5 m11; replace s11 := cell_below bd5 s11; replace r11 := cell_below bd5 r11; replace d11 := cell_below bd5 d11; replace g11 := cell_below bd5 g11; replace k11 := cell_below bd5 k11; replace e11 := cell_below bd5 e11; replace f11 := cell_below bd5 f11; replace j11 := cell_below bd5 j11; replace z10 := cell_below bd5 z10; replace x10 := cell_below bd5 x10; replace b11 := cell_below bd5 b11; replace Ot_3 := Lib.hid (own_below Ot_3.out bd5); replace w10 := Lib.hid (GoC.cur_below w10.out bd5); replace Ot_1 := Lib.hid (own_below Ot_1.out bd5); replace Ox_6 := Lib.hid (own_below Ox_6.out bd5); clear bd5; refine wp_region_still_tail 3 (by kernel_rfl) (by kernel_rfl) ?_; simp only [List.take_succ_cons, List.take_zero, List.drop_succ_cons, List.drop_zero]; change wpStill _ _ x11.drew _ _ _; rw [hZ5]
   repeat still_step
   refine wpStill_nil ?_; change wpList _ _ _ _ _ x11.drew; rw [hZ5]; clear hZ5; obtain ⟨c10, w11⟩ : ∃ x, (((((((((Z5).setCell ⟨w.heap.size, 0, none⟩ (.int .i64 k10)).setCell ⟨w.heap.size, 1, none⟩ (.int .i64 h10)).setCell ⟨w.heap.size, 2, none⟩ (.int .i64 i10)).setCell ⟨w.heap.size, 3, none⟩ (.int .i64 j10)).setCell ⟨w.heap.size, 4, none⟩ (.int .i64 t10)).setCell ⟨w.heap.size, 5, none⟩ (.int .i64 n10)).setCell ⟨w.heap.size, 6, none⟩ (.int .i64 l10)).setCell ⟨w.heap.size, 7, none⟩ (.int .i64 m10)).setCell ⟨w.heap.size, 8, none⟩ (.int .i64 o10) = x := ⟨_, rfl⟩; have v13 := Ot_1.out.frozenAt 0; have h13 := Ot_1.out.frozenAt 1; have w12 := Ot_1.out.frozenAt 2; have x12 := Ot_1.out.frozenAt 3; have d13 := Ot_1.out.frozenAt 4; have y12 := Ot_1.out.frozenAt 5; have g13 := Ot_1.out.frozenAt 6; have m13 := Ot_1.out.frozenAt 7; have e13 := Ot_1.out.frozenAt 8; have i11 := Lib.hid (own_stores [(0, .int .i64 k10), (1, .int .i64 h10), (2, .int .i64 i10), (3, .int .i64 j10), (4, .int .i64 t10), (5, .int .i64 n10), (6, .int .i64 l10), (7, .int .i64 m10), (8, .int .i64 o10)] Ot_1.out); have e10 : Hid (c10.ownsRow w.heap.size 26 9 (.slice (some ⟨w.heap.size, 0, none⟩) 1 1) 1 [.int .i64 k10, .int .i64 h10, .int .i64 i10, .int .i64 j10, .int .i64 t10, .int .i64 n10, .int .i64 l10, .int .i64 m10, .int .i64 o10]) := Lib.hid (by rw [← w11]; exact i11.out.1); have a10 : Hid (Z5.grownBy c10 (Value.slice (some ⟨w.heap.size, 0, none⟩) 1 1).ownBlock) := Lib.hid (by rw [← w11]; exact i11.out.2); have h12 := Lib.hid (GoC.grown_new HBZ5.out a10.out (GoC.own_ge Ot_1.out)); clear i11; have a16 := cell_other d11 a10.out (Apart.symm b10.out); have j16 := cell_other g11 a10.out (Apart.symm b10.out); have n16 := cell_other k11 a10.out (Apart.symm b10.out); have v15 := cell_other e11 a10.out (Apart.symm b10.out); have e16 := cell_other f11 a10.out (Apart.symm b10.out); have o15 := cell_other j11 a10.out (Apart.symm b10.out); have y15 := cell_other z10 a10.out (Apart.symm b10.out); have b16 := cell_other x10 a10.out (Apart.symm b10.out); have l15 := cell_other b11 a10.out (Apart.symm b10.out); replace Ox_6 := Lib.hid (own_other Ox_6.out a10.out (Apart.symm b10.out)); replace Ot_3 := Lib.hid (own_other Ot_3.out a10.out (Apart.symm r12.out)); replace w10 := Lib.hid (GoC.cur_otherO w10.out a10.out d10.out L0 Ot_1.out); clear Ot_1 a10; have x14 : c10.cell? ⟨w.heap.size, 0, none⟩ = some (.int .i64 k10) := e10.out.cells rfl 0 _ rfl; have k14 : c10.cell? ⟨w.heap.size, 1, none⟩ = some (.int .i64 h10) := e10.out.cells rfl 1 _ rfl; have d15 : c10.cell? ⟨w.heap.size, 2, none⟩ = some (.int .i64 i10) := e10.out.cells rfl 2 _ rfl; have z13 : c10.cell? ⟨w.heap.size, 3, none⟩ = some (.int .i64 j10) := e10.out.cells rfl 3 _ rfl; have b15 : c10.cell? ⟨w.heap.size, 4, none⟩ = some (.int .i64 t10) := e10.out.cells rfl 4 _ rfl; have o14 : c10.cell? ⟨w.heap.size, 5, none⟩ = some (.int .i64 n10) := e10.out.cells rfl 5 _ rfl; have q14 : c10.cell? ⟨w.heap.size, 6, none⟩ = some (.int .i64 l10) := e10.out.cells rfl 6 _ rfl; have e15 : c10.cell? ⟨w.heap.size, 7, none⟩ = some (.int .i64 m10) := e10.out.cells rfl 7 _ rfl; have g15 : c10.cell? ⟨w.heap.size, 8, none⟩ = some (.int .i64 o10) := e10.out.cells rfl 8 _ rfl; have hR_ := ret_hid H; simp only [Prod.mk.injEq] at hR_; obtain ⟨rfl, rfl, rfl⟩ := hR_; go_wp2_with fail
   (try simp only [Exit.inBlock, Exit.then])
   refine bodyPost_ret (v := .tuple #[.slice At_3 t_3.length ct_3, .agg #[.int .i64 k10, .int .i64 h10, .int .i64 i10, .int .i64 j10, .int .i64 t10, .int .i64 n10, .int .i64 l10, .int .i64 m10, .int .i64 o10]]) ?hr_ ?hd_ ?_
   case hd_ => rfl
   case hr_ => simp [results, Tryz.results50, x14, k14, d15, z13, b15, o14, q14, e15, g15, go_sem]
   exact ⟨At_3, ct_3, rfl, Ot_3.out, w10.out, h12.out⟩
  | true =>
   replace H := ite_t H; obtain ⟨p10, c13⟩ : ∃ x, (x11).setCell ⟨wt_5.heap.size, 4, none⟩ (.int .i64 t_16) = x := ⟨_, rfl⟩; have y14 := Ox_6.out.frozenAt 4; have o12 := Lib.hid (own_stores [(4, .int .i64 t_16)] Ox_6.out); have s10 : Hid (p10.ownsRow w.heap.size 26 9 (.slice (some ⟨wt_5.heap.size, 0, none⟩) 1 1) 1 [.int .i64 k10, .int .i64 h10, .int .i64 i10, .int .i64 j10, .int .i64 t_16, .int .i64 n10, .int .i64 l10, .int .i64 m10, .int .i64 o10]) := Lib.hid (by rw [← c13]; exact o12.out.1); have q10 : Hid (x11.grownBy p10 (Value.slice (some ⟨wt_5.heap.size, 0, none⟩) 1 1).ownBlock) := Lib.hid (by rw [← c13]; exact o12.out.2); have r14 := Lib.hid (GoC.grown_new f13.out q10.out (GoC.own_ge Ox_6.out)); clear o12; have t13 := cell_other q11 q10.out b10.out; have j13 := cell_other p11 q10.out b10.out; have i13 := cell_other o11 q10.out b10.out; have p13 := cell_other n11 q10.out b10.out; have a13 := cell_other l11 q10.out b10.out; have o13 := cell_other t11 q10.out b10.out; have s13 := cell_other m11 q10.out b10.out; have l13 := cell_other s11 q10.out b10.out; have v12 := cell_other r11 q10.out b10.out; replace Ot_1 := Lib.hid (own_other Ot_1.out q10.out b10.out); replace Ot_3 := Lib.hid (own_other Ot_3.out q10.out a15.out); replace w10 := Lib.hid (GoC.cur_otherO w10.out q10.out y10.out L0 Ox_6.out); clear Ox_6 q10; have t12 : p10.cell? ⟨wt_5.heap.size, 0, none⟩ = some (.int .i64 k10) := s10.out.cells rfl 0 _ rfl; have l12 : p10.cell? ⟨wt_5.heap.size, 1, none⟩ = some (.int .i64 h10) := s10.out.cells rfl 1 _ rfl; have i12 : p10.cell? ⟨wt_5.heap.size, 2, none⟩ = some (.int .i64 i10) := s10.out.cells rfl 2 _ rfl; have q12 : p10.cell? ⟨wt_5.heap.size, 3, none⟩ = some (.int .i64 j10) := s10.out.cells rfl 3 _ rfl; have j12 : p10.cell? ⟨wt_5.heap.size, 4, none⟩ = some (.int .i64 t_16) := s10.out.cells rfl 4 _ rfl; have k12 : p10.cell? ⟨wt_5.heap.size, 5, none⟩ = some (.int .i64 n10) := s10.out.cells rfl 5 _ rfl; have m12 : p10.cell? ⟨wt_5.heap.size, 6, none⟩ = some (.int .i64 l10) := s10.out.cells rfl 6 _ rfl; have p12 : p10.cell? ⟨wt_5.heap.size, 7, none⟩ = some (.int .i64 m10) := s10.out.cells rfl 7 _ rfl; have n12 : p10.cell? ⟨wt_5.heap.size, 8, none⟩ = some (.int .i64 o10) := s10.out.cells rfl 8 _ rfl; unfold j0 at H; replace H := unp9_hid H; go_wp2_with fail; clear y14 q11 p11 o11 n11 l11 t11 m11 s11 r11 d11 g11 k11 e11 f11 j11 z10 x10 b11; obtain ⟨Z5, hZ5⟩ : ∃ x, p10.drew = x := ⟨_, rfl⟩; have bd5 : Below p10.heap.size p10 Z5 := (by rw [← hZ5]; exact (Below.refl _ _).drew); have HBZ5 := Lib.hid (grown_below r14.out bd5); replace t13 := cell_below bd5 t13; replace j13 := cell_below bd5 j13; replace i13 := cell_below bd5 i13; replace p13 := cell_below bd5 p13; replace a13 := cell_below bd5 a13; replace o13 := cell_below bd5 o13; replace s13 := cell_below bd5 s13; replace l13 := cell_below bd5 l13; replace v12 := cell_below bd5 v12; replace t12 := cell_below bd5 t12; replace l12 := cell_below bd5 l12; replace i12 := cell_below bd5 i12; replace q12 := cell_below bd5 q12; replace j12 := cell_below bd5 j12; replace k12 := cell_below bd5 k12; replace m12 := cell_below bd5 m12; replace p12 := cell_below bd5 p12; replace n12 := cell_below bd5 n12; replace Ot_3 := Lib.hid (own_below Ot_3.out bd5); replace w10 := Lib.hid (GoC.cur_below w10.out bd5); replace Ot_1 := Lib.hid (own_below Ot_1.out bd5); replace s10 := Lib.hid (own_below s10.out bd5); clear bd5; refine wp_region_still_tail 3 (by kernel_rfl) (by kernel_rfl) ?_; simp only [List.take_succ_cons, List.take_zero, List.drop_succ_cons, List.drop_zero]; change wpStill _ _ p10.drew _ _ _; rw [hZ5]
   repeat still_step
   refine wpStill_nil ?_; change wpList _ _ _ _ _ p10.drew; rw [hZ5]; clear hZ5; obtain ⟨c10, w11⟩ : ∃ x, (((((((((Z5).setCell ⟨w.heap.size, 0, none⟩ (.int .i64 k10)).setCell ⟨w.heap.size, 1, none⟩ (.int .i64 h10)).setCell ⟨w.heap.size, 2, none⟩ (.int .i64 i10)).setCell ⟨w.heap.size, 3, none⟩ (.int .i64 j10)).setCell ⟨w.heap.size, 4, none⟩ (.int .i64 t_16)).setCell ⟨w.heap.size, 5, none⟩ (.int .i64 n10)).setCell ⟨w.heap.size, 6, none⟩ (.int .i64 l10)).setCell ⟨w.heap.size, 7, none⟩ (.int .i64 m10)).setCell ⟨w.heap.size, 8, none⟩ (.int .i64 o10) = x := ⟨_, rfl⟩; have v13 := Ot_1.out.frozenAt 0; have h13 := Ot_1.out.frozenAt 1; have w12 := Ot_1.out.frozenAt 2; have x12 := Ot_1.out.frozenAt 3; have d13 := Ot_1.out.frozenAt 4; have y12 := Ot_1.out.frozenAt 5; have g13 := Ot_1.out.frozenAt 6; have m13 := Ot_1.out.frozenAt 7; have e13 := Ot_1.out.frozenAt 8; have i11 := Lib.hid (own_stores [(0, .int .i64 k10), (1, .int .i64 h10), (2, .int .i64 i10), (3, .int .i64 j10), (4, .int .i64 t_16), (5, .int .i64 n10), (6, .int .i64 l10), (7, .int .i64 m10), (8, .int .i64 o10)] Ot_1.out); have e10 : Hid (c10.ownsRow w.heap.size 26 9 (.slice (some ⟨w.heap.size, 0, none⟩) 1 1) 1 [.int .i64 k10, .int .i64 h10, .int .i64 i10, .int .i64 j10, .int .i64 t_16, .int .i64 n10, .int .i64 l10, .int .i64 m10, .int .i64 o10]) := Lib.hid (by rw [← w11]; exact i11.out.1); have a10 : Hid (Z5.grownBy c10 (Value.slice (some ⟨w.heap.size, 0, none⟩) 1 1).ownBlock) := Lib.hid (by rw [← w11]; exact i11.out.2); have h12 := Lib.hid (GoC.grown_new HBZ5.out a10.out (GoC.own_ge Ot_1.out)); clear i11; have h16 := cell_other t12 a10.out (Apart.symm b10.out); have o16 := cell_other l12 a10.out (Apart.symm b10.out); have f16 := cell_other i12 a10.out (Apart.symm b10.out); have q15 := cell_other q12 a10.out (Apart.symm b10.out); have r15 := cell_other j12 a10.out (Apart.symm b10.out); have z15 := cell_other k12 a10.out (Apart.symm b10.out); have k15 := cell_other m12 a10.out (Apart.symm b10.out); have m16 := cell_other p12 a10.out (Apart.symm b10.out); have s15 := cell_other n12 a10.out (Apart.symm b10.out); replace s10 := Lib.hid (own_other s10.out a10.out (Apart.symm b10.out)); replace Ot_3 := Lib.hid (own_other Ot_3.out a10.out (Apart.symm r12.out)); replace w10 := Lib.hid (GoC.cur_otherO w10.out a10.out d10.out L0 Ot_1.out); clear Ot_1 a10; have b14 : c10.cell? ⟨w.heap.size, 0, none⟩ = some (.int .i64 k10) := e10.out.cells rfl 0 _ rfl; have m14 : c10.cell? ⟨w.heap.size, 1, none⟩ = some (.int .i64 h10) := e10.out.cells rfl 1 _ rfl; have d14 : c10.cell? ⟨w.heap.size, 2, none⟩ = some (.int .i64 i10) := e10.out.cells rfl 2 _ rfl; have y13 : c10.cell? ⟨w.heap.size, 3, none⟩ = some (.int .i64 j10) := e10.out.cells rfl 3 _ rfl; have c15 : c10.cell? ⟨w.heap.size, 4, none⟩ = some (.int .i64 t_16) := e10.out.cells rfl 4 _ rfl; have c14 : c10.cell? ⟨w.heap.size, 5, none⟩ = some (.int .i64 n10) := e10.out.cells rfl 5 _ rfl; have p14 : c10.cell? ⟨w.heap.size, 6, none⟩ = some (.int .i64 l10) := e10.out.cells rfl 6 _ rfl; have w13 : c10.cell? ⟨w.heap.size, 7, none⟩ = some (.int .i64 m10) := e10.out.cells rfl 7 _ rfl; have f14 : c10.cell? ⟨w.heap.size, 8, none⟩ = some (.int .i64 o10) := e10.out.cells rfl 8 _ rfl; have hR_ := ret_hid H; simp only [Prod.mk.injEq] at hR_; obtain ⟨rfl, rfl, rfl⟩ := hR_; go_wp2_with fail
   (try simp only [Exit.inBlock, Exit.then])
   refine bodyPost_ret (v := .tuple #[.slice At_3 t_3.length ct_3, .agg #[.int .i64 k10, .int .i64 h10, .int .i64 i10, .int .i64 j10, .int .i64 t_16, .int .i64 n10, .int .i64 l10, .int .i64 m10, .int .i64 o10]]) ?hr_ ?hd_ ?_
   case hd_ => rfl
   case hr_ => simp [results, Tryz.results50, b14, m14, d14, y13, c15, c14, p14, w13, f14, go_sem]
   exact ⟨At_3, ct_3, rfl, Ot_3.out, w10.out, h12.out⟩
end Go.Proofs.YtihibckijdfidaaGreat.GsL1CurExplained

namespace Go.Proofs.YtihibckijdfidaaGreat.GsDrawIsExplained
open Go.RowKit
open Go.Proofs.YtihibckijdfidaaGreat.Rowed Go.Proofs.YtihibckijdfidaaGreat.Turn Go.Proofs.YtihibckijdfidaaGreat.Aid Go.Proofs.YtihibckijdfidaaGreat.GoP Go.Proofs.YtihibckijdfidaaGreat.GoM

def P (fuel : Nat) (tapes : List Int → GoC.Tape) (code : (List Int)) : Option ((List PRate.Rate) × PCover.Cover) :=
 letK (tapes code) fun (t_4 : GoC.Tape) =>
 bind3 (GsL1CurExplained.P fuel t_4) fun (t_7a : (List PRate.Rate)) (t_7b : PCover.Cover) (t_7_tp : GoC.Tape) =>
 unCover t_7b fun (t_7b_id : Int) (t_7b_day : Int) (t_7b_zone : Int) (t_7b_grams : Int) (t_7b_paid : Int) (t_7b_from_ : Int) (t_7b_to_ : Int) (t_7b_leave : Int) (t_7b_arrive : Int) =>
 some (t_7a, (PCover.Cover.mk t_7b_id t_7b_day t_7b_zone t_7b_grams t_7b_paid t_7b_from_ t_7b_to_ t_7b_leave t_7b_arrive))

set_option maxRecDepth 100000 in
set_option maxHeartbeats 2000000 in
theorem C (fuel : Nat) (tapes : List Int → GoC.Tape) (code : (List Int)) (A0 : Option Addr) (c0 : Nat)  (w : World) (HE : Hid (GoC.Tells tapes)) (M0 : Hid (Cells w 1 A0 code.length (GoC.u8s code))) (N0 : Hid (code.length ≤ 9223372036854775807)) (V0 : Hid (∀ z ∈ code, 0 ≤ z ∧ z ≤ 255))  {r0 : (List PRate.Rate)} {r1 : PCover.Cover} (H : Hid (P fuel tapes code = some (r0, r1))) :
  Calls Tryz.prog 30 #[.slice A0 code.length c0] w (fun e w' => ∃ A_r0 c_r0, e = .returned (.tuple #[.slice A_r0 r0.length c_r0, (PCover.Cover.val r1)]) ∧ w'.ownsRow w.heap.size 88 5 (.slice A_r0 r0.length c_r0) r0.length (PRate.flat r0) ∧ Below w.heap.size w w') := by
 have HB := Lib.hid (Below.refl w.heap.size w); unfold P at H; have N0o := N0.out
 go_enter Tryz.func30, Tryz.ntmps30
 obtain ⟨a10, h10⟩ : ∃ x, w.alloc (.cells #[.int .i64 0, .int .i64 0, .int .i64 0, .int .i64 0, .int .i64 0, .int .i64 0, .int .i64 0, .int .i64 0, .int .i64 0] 26) = x := ⟨_, rfl⟩; have y11 : Below w.heap.size w a10 := (by rw [← h10]; exact (Below.refl _ _).alloc (Nat.le_refl _) _); have r11 := Lib.hid (Below.step HB.out y11); clear y11; have g11 : a10.cell? ⟨w.heap.size, 0, none⟩ = some (.int .i64 0) := (by rw [← h10]; exact box_new _ _ _ 0 _ rfl); have b12 : a10.cell? ⟨w.heap.size, 1, none⟩ = some (.int .i64 0) := (by rw [← h10]; exact box_new _ _ _ 1 _ rfl); have i12 : a10.cell? ⟨w.heap.size, 2, none⟩ = some (.int .i64 0) := (by rw [← h10]; exact box_new _ _ _ 2 _ rfl); have g12 : a10.cell? ⟨w.heap.size, 3, none⟩ = some (.int .i64 0) := (by rw [← h10]; exact box_new _ _ _ 3 _ rfl); have m12 : a10.cell? ⟨w.heap.size, 4, none⟩ = some (.int .i64 0) := (by rw [← h10]; exact box_new _ _ _ 4 _ rfl); have n12 : a10.cell? ⟨w.heap.size, 5, none⟩ = some (.int .i64 0) := (by rw [← h10]; exact box_new _ _ _ 5 _ rfl); have l12 : a10.cell? ⟨w.heap.size, 6, none⟩ = some (.int .i64 0) := (by rw [← h10]; exact box_new _ _ _ 6 _ rfl); have o12 : a10.cell? ⟨w.heap.size, 7, none⟩ = some (.int .i64 0) := (by rw [← h10]; exact box_new _ _ _ 7 _ rfl); have z11 : a10.cell? ⟨w.heap.size, 8, none⟩ = some (.int .i64 0) := (by rw [← h10]; exact box_new _ _ _ 8 _ rfl); have Ot_1 : Hid (a10.ownsRow w.heap.size 26 9 (.slice (some ⟨w.heap.size, 0, none⟩) 1 1) 1 [.int .i64 0, .int .i64 0, .int .i64 0, .int .i64 0, .int .i64 0, .int .i64 0, .int .i64 0, .int .i64 0, .int .i64 0]) := Lib.hid (by rw [← h10]; exact own_laid (n := 1) HB.out.size rfl rfl (by unfold maxLen; omega)); replace H := let_hid H; obtain ⟨t_4, ht_4, H⟩ := H; obtain ⟨t11, q12⟩ : ∃ x, a10.alloc (.cells #[.slice A0 code.length c0, .int .i64 0, .int .u64 0] 71) = x := ⟨_, rfl⟩; have e10 : Below a10.heap.size a10 t11 := (by rw [← q12]; exact (Below.refl _ _).alloc (Nat.le_refl _) _); have Kt_4 : Hid (GoC.CurIs t11 w.heap.size a10.heap.size A0 c0 t_4) := Lib.hid (by rw [← q12, ← ht_4]; exact GoC.cur_new r11.out.size (Cells.below M0.out r11.out) (fun a_ ha_ h0_ => by subst ha_; exact GoC.cells_lt M0.out (by unfold GoC.u8s; rw [List.length_map]; exact h0_)) (HE.out.2.2 code V0.out N0.out)); have h13 := Lib.hid ht_4; clear ht_4; have f10 := Lib.hid (apart_box g11); have q11 := Lib.hid (Below.step r11.out e10); have w10 := cell_below e10 g11; have b11 := cell_below e10 b12; have y10 := cell_below e10 i12; have c11 := cell_below e10 g12; have a11 := cell_below e10 m12; have d11 := cell_below e10 n12; have z10 := cell_below e10 l12; have x10 := cell_below e10 o12; have e11 := cell_below e10 z11; replace Ot_1 := Lib.hid (own_below Ot_1.out e10); clear e10; replace H := bind3_hid H; obtain ⟨t_7a, t_7b, p13, qt_7, H⟩ := H; obtain ⟨o10, q10, s10, m10, n10, v10, t10, p10, r10⟩ := t_7b; replace H := unCover_hid H; go_wp2_with fail; clear g11 b12 i12 g12 m12 n12 l12 o12 z11; go_at_call 50; refine (GsL1CurExplained.C fuel (t_4) (a10.heap.size) (A0) (c0) (w.heap.size) _   Kt_4 qt_7).mono ?_; rintro g13 wt_7 ⟨v11, h12, rfl, f11, kt_7, gt_7⟩; unfold PCover.Cover.val; have d13 := Lib.hid (apart_callbox f11 w10); have y13 := Lib.hid (GoC.apart_callcur f11 Kt_4.out); have l10 := Lib.hid (own_lower f11 q11.out.size); clear f11; have Kt_7 := Lib.hid kt_7; have Gt_7 : Hid (t11.grownBy wt_7 (Value.slice (some ⟨a10.heap.size, 0, none⟩) 1 1).ownBlock) := Lib.hid gt_7; clear kt_7 gt_7; have x12 := Lib.hid (GoC.below_cur q11.out Gt_7.out q11.out.size (GoC.cur_lt Kt_4.out).1); replace w10 := cell_other w10 Gt_7.out f10.out; replace b11 := cell_other b11 Gt_7.out f10.out; replace y10 := cell_other y10 Gt_7.out f10.out; replace c11 := cell_other c11 Gt_7.out f10.out; replace a11 := cell_other a11 Gt_7.out f10.out; replace d11 := cell_other d11 Gt_7.out f10.out; replace z10 := cell_other z10 Gt_7.out f10.out; replace x10 := cell_other x10 Gt_7.out f10.out
 replace e11 := cell_other e11 Gt_7.out f10.out; replace Ot_1 := Lib.hid (own_other Ot_1.out Gt_7.out f10.out); clear Kt_4 Gt_7; obtain ⟨b10, i10⟩ : ∃ x, wt_7.alloc (.cells #[.int .i64 o10, .int .i64 q10, .int .i64 s10, .int .i64 m10, .int .i64 n10, .int .i64 v10, .int .i64 t10, .int .i64 p10, .int .i64 r10] 26) = x := ⟨_, rfl⟩; have c10 : Below wt_7.heap.size wt_7 b10 := (by rw [← i10]; exact (Below.refl _ _).alloc (Nat.le_refl _) _); have t13 := Lib.hid (apart_fresh l10.out); have q13 := Lib.hid (GoC.apart_cur Kt_7.out); have k10 := Lib.hid (apart_box w10); have e13 := Lib.hid (Below.step x12.out c10); have k12 := cell_below c10 w10; have a12 := cell_below c10 b11; have j12 := cell_below c10 y10; have x11 := cell_below c10 c11; have w11 := cell_below c10 a11; have d12 := cell_below c10 d11; have f12 := cell_below c10 z10; have p12 := cell_below c10 x10; have e12 := cell_below c10 e11; replace l10 := Lib.hid (own_below l10.out c10); replace Kt_7 := Lib.hid (GoC.cur_below Kt_7.out c10); replace Ot_1 := Lib.hid (own_below Ot_1.out c10); clear c10; have j11 : b10.cell? ⟨wt_7.heap.size, 0, none⟩ = some (.int .i64 o10) := (by rw [← i10]; exact box_new _ _ _ 0 _ rfl); have s11 : b10.cell? ⟨wt_7.heap.size, 1, none⟩ = some (.int .i64 q10) := (by rw [← i10]; exact box_new _ _ _ 1 _ rfl); have n11 : b10.cell? ⟨wt_7.heap.size, 2, none⟩ = some (.int .i64 s10) := (by rw [← i10]; exact box_new _ _ _ 2 _ rfl); have h11 : b10.cell? ⟨wt_7.heap.size, 3, none⟩ = some (.int .i64 m10) := (by rw [← i10]; exact box_new _ _ _ 3 _ rfl); have l11 : b10.cell? ⟨wt_7.heap.size, 4, none⟩ = some (.int .i64 n10) := (by rw [← i10]; exact box_new _ _ _ 4 _ rfl); have o11 : b10.cell? ⟨wt_7.heap.size, 5, none⟩ = some (.int .i64 v10) := (by rw [← i10]; exact box_new _ _ _ 5 _ rfl); have m11 : b10.cell? ⟨wt_7.heap.size, 6, none⟩ = some (.int .i64 t10) := (by rw [← i10]; exact box_new _ _ _ 6 _ rfl); have p11 : b10.cell? ⟨wt_7.heap.size, 7, none⟩ = some (.int .i64 p10) := (by rw [← i10]; exact box_new _ _ _ 7 _ rfl); have k11 : b10.cell? ⟨wt_7.heap.size, 8, none⟩ = some (.int .i64 r10) := (by rw [← i10]; exact box_new _ _ _ 8 _ rfl); go_wp2_with fail; clear w10 b11 y10 c11 a11 d11 z10 x10 e11; obtain ⟨Z3, hZ3⟩ : ∃ x, b10.drew = x := ⟨_, rfl⟩; have bd3 : Below b10.heap.size b10 Z3 := (by rw [← hZ3]; exact (Below.refl _ _).drew); have HBZ3 := Lib.hid (Below.step e13.out bd3); replace k12 := cell_below bd3 k12; replace a12 := cell_below bd3 a12; replace j12 := cell_below bd3 j12; replace x11 := cell_below bd3 x11; replace w11 := cell_below bd3 w11; replace d12 := cell_below bd3 d12; replace f12 := cell_below bd3 f12; replace p12 := cell_below bd3 p12; replace e12 := cell_below bd3 e12; replace j11 := cell_below bd3 j11; replace s11 := cell_below bd3 s11; replace n11 := cell_below bd3 n11; replace h11 := cell_below bd3 h11; replace l11 := cell_below bd3 l11; replace o11 := cell_below bd3 o11; replace m11 := cell_below bd3 m11; replace p11 := cell_below bd3 p11; replace k11 := cell_below bd3 k11; replace l10 := Lib.hid (own_below l10.out bd3); replace Kt_7 := Lib.hid (GoC.cur_below Kt_7.out bd3); replace Ot_1 := Lib.hid (own_below Ot_1.out bd3); clear bd3; refine wp_region_still_tail 3 (by kernel_rfl) (by kernel_rfl) ?_; simp only [List.take_succ_cons, List.take_zero, List.drop_succ_cons, List.drop_zero]; change wpStill _ _ b10.drew _ _ _; rw [hZ3]
 repeat still_step
 refine wpStill_nil ?_; change wpList _ _ _ _ _ b10.drew; rw [hZ3]; clear hZ3; obtain ⟨g10, c12⟩ : ∃ x, (((((((((Z3).setCell ⟨w.heap.size, 0, none⟩ (.int .i64 o10)).setCell ⟨w.heap.size, 1, none⟩ (.int .i64 q10)).setCell ⟨w.heap.size, 2, none⟩ (.int .i64 s10)).setCell ⟨w.heap.size, 3, none⟩ (.int .i64 m10)).setCell ⟨w.heap.size, 4, none⟩ (.int .i64 n10)).setCell ⟨w.heap.size, 5, none⟩ (.int .i64 v10)).setCell ⟨w.heap.size, 6, none⟩ (.int .i64 t10)).setCell ⟨w.heap.size, 7, none⟩ (.int .i64 p10)).setCell ⟨w.heap.size, 8, none⟩ (.int .i64 r10) = x := ⟨_, rfl⟩; have f13 := Ot_1.out.frozenAt 0; have d14 := Ot_1.out.frozenAt 1; have r13 := Ot_1.out.frozenAt 2; have k13 := Ot_1.out.frozenAt 3; have j13 := Ot_1.out.frozenAt 4; have v13 := Ot_1.out.frozenAt 5; have o13 := Ot_1.out.frozenAt 6; have n13 := Ot_1.out.frozenAt 7; have x13 := Ot_1.out.frozenAt 8; have i11 := Lib.hid (own_stores [(0, .int .i64 o10), (1, .int .i64 q10), (2, .int .i64 s10), (3, .int .i64 m10), (4, .int .i64 n10), (5, .int .i64 v10), (6, .int .i64 t10), (7, .int .i64 p10), (8, .int .i64 r10)] Ot_1.out); have j10 : Hid (g10.ownsRow w.heap.size 26 9 (.slice (some ⟨w.heap.size, 0, none⟩) 1 1) 1 [.int .i64 o10, .int .i64 q10, .int .i64 s10, .int .i64 m10, .int .i64 n10, .int .i64 v10, .int .i64 t10, .int .i64 p10, .int .i64 r10]) := Lib.hid (by rw [← c12]; exact i11.out.1); have d10 : Hid (Z3.grownBy g10 (Value.slice (some ⟨w.heap.size, 0, none⟩) 1 1).ownBlock) := Lib.hid (by rw [← c12]; exact i11.out.2); have z12 := Lib.hid (HBZ3.out.grown d10.out HBZ3.out.size (fun q hq => (Ot_1.out.lt q hq).1)); clear i11; have m13 := cell_other j11 d10.out (Apart.symm k10.out); have s13 := cell_other s11 d10.out (Apart.symm k10.out); have l13 := cell_other n11 d10.out (Apart.symm k10.out); have i13 := cell_other h11 d10.out (Apart.symm k10.out); have w13 := cell_other l11 d10.out (Apart.symm k10.out); have b14 := cell_other o11 d10.out (Apart.symm k10.out); have a14 := cell_other m11 d10.out (Apart.symm k10.out); have c14 := cell_other p11 d10.out (Apart.symm k10.out); have z13 := cell_other k11 d10.out (Apart.symm k10.out); replace l10 := Lib.hid (own_other l10.out d10.out (Apart.symm d13.out)); replace Kt_7 := Lib.hid (GoC.cur_other Kt_7.out d10.out (Apart.symm f10.out) (GoC.own_ge Ot_1.out)); clear Ot_1 d10; have r12 : g10.cell? ⟨w.heap.size, 0, none⟩ = some (.int .i64 o10) := j10.out.cells rfl 0 _ rfl; have v12 : g10.cell? ⟨w.heap.size, 1, none⟩ = some (.int .i64 q10) := j10.out.cells rfl 1 _ rfl; have c13 : g10.cell? ⟨w.heap.size, 2, none⟩ = some (.int .i64 s10) := j10.out.cells rfl 2 _ rfl; have a13 : g10.cell? ⟨w.heap.size, 3, none⟩ = some (.int .i64 m10) := j10.out.cells rfl 3 _ rfl; have w12 : g10.cell? ⟨w.heap.size, 4, none⟩ = some (.int .i64 n10) := j10.out.cells rfl 4 _ rfl; have s12 : g10.cell? ⟨w.heap.size, 5, none⟩ = some (.int .i64 v10) := j10.out.cells rfl 5 _ rfl; have y12 : g10.cell? ⟨w.heap.size, 6, none⟩ = some (.int .i64 t10) := j10.out.cells rfl 6 _ rfl; have t12 : g10.cell? ⟨w.heap.size, 7, none⟩ = some (.int .i64 p10) := j10.out.cells rfl 7 _ rfl; have b13 : g10.cell? ⟨w.heap.size, 8, none⟩ = some (.int .i64 r10) := j10.out.cells rfl 8 _ rfl; have hR_ := ret_hid H; simp only [Prod.mk.injEq] at hR_; obtain ⟨rfl, rfl⟩ := hR_; go_wp2_with fail
 (try simp only [Exit.inBlock, Exit.then])
 refine bodyPost_ret (v := .tuple #[.slice v11 t_7a.length h12, .agg #[.int .i64 o10, .int .i64 q10, .int .i64 s10, .int .i64 m10, .int .i64 n10, .int .i64 v10, .int .i64 t10, .int .i64 p10, .int .i64 r10]]) ?hr_ ?hd_ ?_
 case hd_ => rfl
 case hr_ => simp [results, Tryz.results30, r12, v12, c13, a13, w12, s12, y12, t12, b13, go_sem]
 exact ⟨v11, h12, rfl, l10.out, z12.out⟩
end Go.Proofs.YtihibckijdfidaaGreat.GsDrawIsExplained

namespace Go.Proofs.YtihibckijdfidaaGreat.GsDrawLeastChange
open Go.RowKit
open Go.Proofs.YtihibckijdfidaaGreat.Rowed Go.Proofs.YtihibckijdfidaaGreat.Turn Go.Proofs.YtihibckijdfidaaGreat.Aid Go.Proofs.YtihibckijdfidaaGreat.GoP Go.Proofs.YtihibckijdfidaaGreat.GoM

def P (fuel : Nat) (tapes : List Int → GoC.Tape) (code : (List Int)) : Option ((List PRate.Rate) × PCover.Cover) :=
 bind2 (GsDrawIsExplained.P fuel tapes code) fun (t_3a : (List PRate.Rate)) (t_3b : PCover.Cover) =>
 unCover t_3b fun (t_3b_id : Int) (t_3b_day : Int) (t_3b_zone : Int) (t_3b_grams : Int) (t_3b_paid : Int) (t_3b_from_ : Int) (t_3b_to_ : Int) (t_3b_leave : Int) (t_3b_arrive : Int) =>
 some (t_3a, (PCover.Cover.mk t_3b_id t_3b_day t_3b_zone t_3b_grams t_3b_paid t_3b_from_ t_3b_to_ t_3b_leave t_3b_arrive))

set_option maxRecDepth 100000 in
set_option maxHeartbeats 2000000 in
theorem C (fuel : Nat) (tapes : List Int → GoC.Tape) (code : (List Int)) (A0 : Option Addr) (c0 : Nat)  (w : World) (HE : Hid (GoC.Tells tapes)) (M0 : Hid (Cells w 1 A0 code.length (GoC.u8s code))) (N0 : Hid (code.length ≤ 9223372036854775807)) (V0 : Hid (∀ z ∈ code, 0 ≤ z ∧ z ≤ 255))  {r0 : (List PRate.Rate)} {r1 : PCover.Cover} (H : Hid (P fuel tapes code = some (r0, r1))) :
  Calls Tryz.prog 6 #[.slice A0 code.length c0] w (fun e w' => ∃ A_r0 c_r0, e = .returned (.tuple #[.slice A_r0 r0.length c_r0, (PCover.Cover.val r1)]) ∧ w'.ownsRow w.heap.size 88 5 (.slice A_r0 r0.length c_r0) r0.length (PRate.flat r0) ∧ Below w.heap.size w w') := by
 have HB := Lib.hid (Below.refl w.heap.size w); unfold P at H; have N0o := N0.out
 go_enter Tryz.func6, Tryz.ntmps6
 obtain ⟨c10, b10⟩ : ∃ x, w.alloc (.cells #[.int .i64 0, .int .i64 0, .int .i64 0, .int .i64 0, .int .i64 0, .int .i64 0, .int .i64 0, .int .i64 0, .int .i64 0] 26) = x := ⟨_, rfl⟩; have z10 : Below w.heap.size w c10 := (by rw [← b10]; exact (Below.refl _ _).alloc (Nat.le_refl _) _); have o10 := Lib.hid (Below.step HB.out z10); clear z10; have s10 : c10.cell? ⟨w.heap.size, 0, none⟩ = some (.int .i64 0) := (by rw [← b10]; exact box_new _ _ _ 0 _ rfl); have w10 : c10.cell? ⟨w.heap.size, 1, none⟩ = some (.int .i64 0) := (by rw [← b10]; exact box_new _ _ _ 1 _ rfl); have f11 : c10.cell? ⟨w.heap.size, 2, none⟩ = some (.int .i64 0) := (by rw [← b10]; exact box_new _ _ _ 2 _ rfl); have d11 : c10.cell? ⟨w.heap.size, 3, none⟩ = some (.int .i64 0) := (by rw [← b10]; exact box_new _ _ _ 3 _ rfl); have a11 : c10.cell? ⟨w.heap.size, 4, none⟩ = some (.int .i64 0) := (by rw [← b10]; exact box_new _ _ _ 4 _ rfl); have g11 : c10.cell? ⟨w.heap.size, 5, none⟩ = some (.int .i64 0) := (by rw [← b10]; exact box_new _ _ _ 5 _ rfl); have y10 : c10.cell? ⟨w.heap.size, 6, none⟩ = some (.int .i64 0) := (by rw [← b10]; exact box_new _ _ _ 6 _ rfl); have v10 : c10.cell? ⟨w.heap.size, 7, none⟩ = some (.int .i64 0) := (by rw [← b10]; exact box_new _ _ _ 7 _ rfl); have e11 : c10.cell? ⟨w.heap.size, 8, none⟩ = some (.int .i64 0) := (by rw [← b10]; exact box_new _ _ _ 8 _ rfl); have Ot_1 : Hid (c10.ownsRow w.heap.size 26 9 (.slice (some ⟨w.heap.size, 0, none⟩) 1 1) 1 [.int .i64 0, .int .i64 0, .int .i64 0, .int .i64 0, .int .i64 0, .int .i64 0, .int .i64 0, .int .i64 0, .int .i64 0]) := Lib.hid (by rw [← b10]; exact own_laid (n := 1) HB.out.size rfl rfl (by unfold maxLen; omega)); replace H := bind2_hid H; obtain ⟨t_3a, t_3b, qt_3, H⟩ := H; obtain ⟨l10, g10, i10, j10, f10, m10, k10, h10, e10⟩ := t_3b; replace H := unCover_hid H; go_wp2_with fail; go_at_call 30; refine (GsDrawIsExplained.C fuel tapes (code) A0 c0 _  HE (Lib.hid (Cells.below M0.out o10.out)) N0 V0 qt_3).mono ?_; rintro y11 wt_3 ⟨b11, x10, rfl, p10, bt_3⟩; unfold PCover.Cover.val; have r11 := Lib.hid (apart_callbox p10 s10); have n10 := Lib.hid (own_lower p10 o10.out.size); clear p10; have t10 := Lib.hid (Below.step o10.out bt_3); replace s10 := cell_below bt_3 s10; replace w10 := cell_below bt_3 w10; replace f11 := cell_below bt_3 f11; replace d11 := cell_below bt_3 d11; replace a11 := cell_below bt_3 a11; replace g11 := cell_below bt_3 g11; replace y10 := cell_below bt_3 y10; replace v10 := cell_below bt_3 v10; replace e11 := cell_below bt_3 e11; replace Ot_1 := Lib.hid (own_below Ot_1.out bt_3); clear bt_3; obtain ⟨a10, c11⟩ : ∃ x, (((((((((wt_3).setCell ⟨w.heap.size, 0, none⟩ (.int .i64 l10)).setCell ⟨w.heap.size, 1, none⟩ (.int .i64 g10)).setCell ⟨w.heap.size, 2, none⟩ (.int .i64 i10)).setCell ⟨w.heap.size, 3, none⟩ (.int .i64 j10)).setCell ⟨w.heap.size, 4, none⟩ (.int .i64 f10)).setCell ⟨w.heap.size, 5, none⟩ (.int .i64 m10)).setCell ⟨w.heap.size, 6, none⟩ (.int .i64 k10)).setCell ⟨w.heap.size, 7, none⟩ (.int .i64 h10)).setCell ⟨w.heap.size, 8, none⟩ (.int .i64 e10) = x := ⟨_, rfl⟩; have x11 := Ot_1.out.frozenAt 0; have b12 := Ot_1.out.frozenAt 1; have c12 := Ot_1.out.frozenAt 2; have v11 := Ot_1.out.frozenAt 3; have s11 := Ot_1.out.frozenAt 4; have z11 := Ot_1.out.frozenAt 5; have w11 := Ot_1.out.frozenAt 6; have t11 := Ot_1.out.frozenAt 7; have a12 := Ot_1.out.frozenAt 8; have r10 := Lib.hid (own_stores [(0, .int .i64 l10), (1, .int .i64 g10), (2, .int .i64 i10), (3, .int .i64 j10), (4, .int .i64 f10), (5, .int .i64 m10), (6, .int .i64 k10), (7, .int .i64 h10), (8, .int .i64 e10)] Ot_1.out); have d10 : Hid (a10.ownsRow w.heap.size 26 9 (.slice (some ⟨w.heap.size, 0, none⟩) 1 1) 1 [.int .i64 l10, .int .i64 g10, .int .i64 i10, .int .i64 j10, .int .i64 f10, .int .i64 m10, .int .i64 k10, .int .i64 h10, .int .i64 e10]) := Lib.hid (by rw [← c11]; exact r10.out.1)
 have q10 : Hid (wt_3.grownBy a10 (Value.slice (some ⟨w.heap.size, 0, none⟩) 1 1).ownBlock) := Lib.hid (by rw [← c11]; exact r10.out.2); have q11 := Lib.hid (t10.out.grown q10.out t10.out.size (fun q hq => (Ot_1.out.lt q hq).1)); clear r10; replace n10 := Lib.hid (own_other n10.out q10.out (Apart.symm r11.out)); clear Ot_1 q10; have m11 : a10.cell? ⟨w.heap.size, 0, none⟩ = some (.int .i64 l10) := d10.out.cells rfl 0 _ rfl; have n11 : a10.cell? ⟨w.heap.size, 1, none⟩ = some (.int .i64 g10) := d10.out.cells rfl 1 _ rfl; have i11 : a10.cell? ⟨w.heap.size, 2, none⟩ = some (.int .i64 i10) := d10.out.cells rfl 2 _ rfl; have o11 : a10.cell? ⟨w.heap.size, 3, none⟩ = some (.int .i64 j10) := d10.out.cells rfl 3 _ rfl; have h11 : a10.cell? ⟨w.heap.size, 4, none⟩ = some (.int .i64 f10) := d10.out.cells rfl 4 _ rfl; have j11 : a10.cell? ⟨w.heap.size, 5, none⟩ = some (.int .i64 m10) := d10.out.cells rfl 5 _ rfl; have l11 : a10.cell? ⟨w.heap.size, 6, none⟩ = some (.int .i64 k10) := d10.out.cells rfl 6 _ rfl; have k11 : a10.cell? ⟨w.heap.size, 7, none⟩ = some (.int .i64 h10) := d10.out.cells rfl 7 _ rfl; have p11 : a10.cell? ⟨w.heap.size, 8, none⟩ = some (.int .i64 e10) := d10.out.cells rfl 8 _ rfl; have hR_ := ret_hid H; simp only [Prod.mk.injEq] at hR_; obtain ⟨rfl, rfl⟩ := hR_; go_wp2_with fail
 (try simp only [Exit.inBlock, Exit.then])
 refine bodyPost_ret (v := .tuple #[.slice b11 t_3a.length x10, .agg #[.int .i64 l10, .int .i64 g10, .int .i64 i10, .int .i64 j10, .int .i64 f10, .int .i64 m10, .int .i64 k10, .int .i64 h10, .int .i64 e10]]) ?hr_ ?hd_ ?_
 case hd_ => rfl
 case hr_ => simp [results, Tryz.results6, m11, n11, i11, o11, h11, j11, l11, k11, p11, go_sem]
 exact ⟨b11, x10, rfl, n10.out, q11.out⟩
end Go.Proofs.YtihibckijdfidaaGreat.GsDrawLeastChange

namespace Go.Proofs.YtihibckijdfidaaGreat.GiWithin
open Go.RowKit
open Go.Proofs.YtihibckijdfidaaGreat.Rowed Go.Proofs.YtihibckijdfidaaGreat.Turn Go.Proofs.YtihibckijdfidaaGreat.Aid Go.Proofs.YtihibckijdfidaaGreat.GoP Go.Proofs.YtihibckijdfidaaGreat.GoM

def P (n_0 : Int) (low : Int) (high : Int) : Option (Bool) :=
  letK (decide (low ≤ n_0)) fun (t_3 : Bool) =>
  joinK (fun (t_8 : Bool) =>
  some t_8) fun jt_8 => iteK t_3 (letK (decide (n_0 ≤ high)) fun (t_7 : Bool) =>
  appK jt_8 t_7) (appK jt_8 false)

set_option maxRecDepth 100000 in
set_option maxHeartbeats 2000000 in
theorem C (n_0 : Int) (low : Int) (high : Int)   (w : World)   {r : Bool} (H : Hid (P n_0 low high = some r)) :
    Calls Tryz.prog 53 #[.int .i64 n_0, .int .i64 low, .int .i64 high] w (Gives (.bool r) w) := by
  have HB := Lib.hid (Below.refl w.heap.size w)
  unfold P at H
  go_enter Tryz.func53, Tryz.ntmps53
  replace H := let_hid H
  obtain ⟨t_3, ht_3, H⟩ := H
  replace H := join_hid H
  cases t_3 with
  | false =>
    replace H := ite_f H
    replace H := app_hid H
    obtain rfl := ret_hid H
    go_wp2_with fail
    go_ret
    exact ⟨rfl, HB.out⟩
  | true =>
    replace H := ite_t H
    replace H := let_hid H
    obtain ⟨t_7, ht_7, H⟩ := H
    replace H := app_hid H
    obtain rfl := ret_hid H
    go_wp2_with fail
    go_ret
    exact ⟨rfl, HB.out⟩

set_option maxRecDepth 100000 in
set_option maxHeartbeats 2000000 in
theorem C0 (n_0 : Int) (low : Int) (high : Int)   (w : World)   {r : Bool} (H : Hid (P n_0 low high = some r)) :
    Calls Tryz.prog 53 #[.int .i64 n_0, .int .i64 low, .int .i64 high] w (fun e w'' => e = .returned (.bool r) ∧ w'' = w) := by
  have HB := Lib.hid (Below.refl w.heap.size w)
  unfold P at H
  go_enter Tryz.func53, Tryz.ntmps53
  replace H := let_hid H
  obtain ⟨t_3, ht_3, H⟩ := H
  replace H := join_hid H
  cases t_3 with
  | false =>
    replace H := ite_f H
    replace H := app_hid H
    obtain rfl := ret_hid H
    go_wp2_with fail
    go_ret
    exact ⟨rfl, rfl⟩
  | true =>
    replace H := ite_t H
    replace H := let_hid H
    obtain ⟨t_7, ht_7, H⟩ := H
    replace H := app_hid H
    obtain rfl := ret_hid H
    go_wp2_with fail
    go_ret
    exact ⟨rfl, rfl⟩
end Go.Proofs.YtihibckijdfidaaGreat.GiWithin

namespace Go.Proofs.YtihibckijdfidaaGreat.GiIsZone
open Go.RowKit
open Go.Proofs.YtihibckijdfidaaGreat.Rowed Go.Proofs.YtihibckijdfidaaGreat.Turn Go.Proofs.YtihibckijdfidaaGreat.Aid Go.Proofs.YtihibckijdfidaaGreat.GoP Go.Proofs.YtihibckijdfidaaGreat.GoM

def P (zone : Int) : Option (Bool) :=
  Option.bind (Go.Proofs.YtihibckijdfidaaGreat.GiWithin.P zone 0 9) fun (t_2 : Bool) =>
  some t_2

set_option maxRecDepth 100000 in
set_option maxHeartbeats 2000000 in
theorem C (zone : Int)   (w : World)   {r : Bool} (H : Hid (P zone = some r)) :
    Calls Tryz.prog 55 #[.int .i64 zone] w (Gives (.bool r) w) := by
  have HB := Lib.hid (Below.refl w.heap.size w)
  unfold P at H
  go_enter Tryz.func55, Tryz.ntmps55
  replace H := bind_hid H
  obtain ⟨t_2, qt_2, H⟩ := H
  go_wp2_with fail
  go_at_call 53
  refine (Go.Proofs.YtihibckijdfidaaGreat.GiWithin.C (zone) (0) (9)  _    qt_2).mono ?_
  rintro e_t_2 wt_2 ⟨rfl, bt_2⟩
  have HBwt_2 := Lib.hid (Below.step HB.out bt_2)
  clear bt_2
  obtain rfl := ret_hid H
  go_wp2_with fail
  go_ret
  exact ⟨rfl, HBwt_2.out⟩
end Go.Proofs.YtihibckijdfidaaGreat.GiIsZone

namespace Go.Proofs.YtihibckijdfidaaGreat.GiIsWeight
open Go.RowKit
open Go.Proofs.YtihibckijdfidaaGreat.Rowed Go.Proofs.YtihibckijdfidaaGreat.Turn Go.Proofs.YtihibckijdfidaaGreat.Aid Go.Proofs.YtihibckijdfidaaGreat.GoP Go.Proofs.YtihibckijdfidaaGreat.GoM

def P (grams : Int) : Option (Bool) :=
  Option.bind (Go.Proofs.YtihibckijdfidaaGreat.GiWithin.P grams 1 2000) fun (t_2 : Bool) =>
  some t_2

set_option maxRecDepth 100000 in
set_option maxHeartbeats 2000000 in
theorem C (grams : Int)   (w : World)   {r : Bool} (H : Hid (P grams = some r)) :
    Calls Tryz.prog 56 #[.int .i64 grams] w (Gives (.bool r) w) := by
  have HB := Lib.hid (Below.refl w.heap.size w)
  unfold P at H
  go_enter Tryz.func56, Tryz.ntmps56
  replace H := bind_hid H
  obtain ⟨t_2, qt_2, H⟩ := H
  go_wp2_with fail
  go_at_call 53
  refine (Go.Proofs.YtihibckijdfidaaGreat.GiWithin.C (grams) (1) (2000)  _    qt_2).mono ?_
  rintro e_t_2 wt_2 ⟨rfl, bt_2⟩
  have HBwt_2 := Lib.hid (Below.step HB.out bt_2)
  clear bt_2
  obtain rfl := ret_hid H
  go_wp2_with fail
  go_ret
  exact ⟨rfl, HBwt_2.out⟩
end Go.Proofs.YtihibckijdfidaaGreat.GiIsWeight

namespace Go.Proofs.YtihibckijdfidaaGreat.GiIsRateCents
open Go.RowKit
open Go.Proofs.YtihibckijdfidaaGreat.Rowed Go.Proofs.YtihibckijdfidaaGreat.Turn Go.Proofs.YtihibckijdfidaaGreat.Aid Go.Proofs.YtihibckijdfidaaGreat.GoP Go.Proofs.YtihibckijdfidaaGreat.GoM

def P (cents : Int) : Option (Bool) :=
  Option.bind (Go.Proofs.YtihibckijdfidaaGreat.GiWithin.P cents 1 9999) fun (t_2 : Bool) =>
  some t_2

set_option maxRecDepth 100000 in
set_option maxHeartbeats 2000000 in
theorem C (cents : Int)   (w : World)   {r : Bool} (H : Hid (P cents = some r)) :
    Calls Tryz.prog 57 #[.int .i64 cents] w (Gives (.bool r) w) := by
  have HB := Lib.hid (Below.refl w.heap.size w)
  unfold P at H
  go_enter Tryz.func57, Tryz.ntmps57
  replace H := bind_hid H
  obtain ⟨t_2, qt_2, H⟩ := H
  go_wp2_with fail
  go_at_call 53
  refine (Go.Proofs.YtihibckijdfidaaGreat.GiWithin.C (cents) (1) (9999)  _    qt_2).mono ?_
  rintro e_t_2 wt_2 ⟨rfl, bt_2⟩
  have HBwt_2 := Lib.hid (Below.step HB.out bt_2)
  clear bt_2
  obtain rfl := ret_hid H
  go_wp2_with fail
  go_ret
  exact ⟨rfl, HBwt_2.out⟩
end Go.Proofs.YtihibckijdfidaaGreat.GiIsRateCents

namespace Go.Proofs.YtihibckijdfidaaGreat.GiIsDay
open Go.RowKit
open Go.Proofs.YtihibckijdfidaaGreat.Rowed Go.Proofs.YtihibckijdfidaaGreat.Turn Go.Proofs.YtihibckijdfidaaGreat.Aid Go.Proofs.YtihibckijdfidaaGreat.GoP Go.Proofs.YtihibckijdfidaaGreat.GoM

def P (day : Int) : Option (Bool) :=
  Option.bind (Go.Proofs.YtihibckijdfidaaGreat.GiWithin.P day 0 4000) fun (t_2 : Bool) =>
  some t_2

set_option maxRecDepth 100000 in
set_option maxHeartbeats 2000000 in
theorem C (day : Int)   (w : World)   {r : Bool} (H : Hid (P day = some r)) :
    Calls Tryz.prog 54 #[.int .i64 day] w (Gives (.bool r) w) := by
  have HB := Lib.hid (Below.refl w.heap.size w)
  unfold P at H
  go_enter Tryz.func54, Tryz.ntmps54
  replace H := bind_hid H
  obtain ⟨t_2, qt_2, H⟩ := H
  go_wp2_with fail
  go_at_call 53
  refine (Go.Proofs.YtihibckijdfidaaGreat.GiWithin.C (day) (0) (4000)  _    qt_2).mono ?_
  rintro e_t_2 wt_2 ⟨rfl, bt_2⟩
  have HBwt_2 := Lib.hid (Below.step HB.out bt_2)
  clear bt_2
  obtain rfl := ret_hid H
  go_wp2_with fail
  go_ret
  exact ⟨rfl, HBwt_2.out⟩
end Go.Proofs.YtihibckijdfidaaGreat.GiIsDay

namespace Go.Proofs.YtihibckijdfidaaGreat.GiIsRate
open Go.RowKit
open Go.Proofs.YtihibckijdfidaaGreat.Rowed Go.Proofs.YtihibckijdfidaaGreat.Turn Go.Proofs.YtihibckijdfidaaGreat.Aid Go.Proofs.YtihibckijdfidaaGreat.GoP Go.Proofs.YtihibckijdfidaaGreat.GoM

def P (r_0 : PRate.Rate) : Option (Bool) :=
 unRate r_0 fun (r_0_zone : Int) (r_0_grams : Int) (r_0_from_ : Int) (r_0_until_ : Int) (r_0_cents : Int) =>
 Option.bind (GiIsZone.P r_0_zone) fun (t_4 : Bool) =>
 joinK (fun (t_9 : Bool) =>
 joinK (fun (t_14 : Bool) =>
 joinK (fun (t_19 : Bool) =>
 joinK (fun (t_24 : Bool) =>
 joinK (fun (t_31 : Bool) =>
 some t_31) fun jt_31 => iteK t_24 (letK (decide (r_0_from_ ≤ r_0_until_)) fun (t_30 : Bool) =>
 appK jt_31 t_30) (appK jt_31 false)) fun jt_24 => iteK t_19 (Option.bind (GiIsDay.P r_0_until_) fun (t_23 : Bool) =>
 appK jt_24 t_23) (appK jt_24 false)) fun jt_19 => iteK t_14 (Option.bind (GiIsDay.P r_0_from_) fun (t_18 : Bool) =>
 appK jt_19 t_18) (appK jt_19 false)) fun jt_14 => iteK t_9 (Option.bind (GiIsRateCents.P r_0_cents) fun (t_13 : Bool) =>
 appK jt_14 t_13) (appK jt_14 false)) fun jt_9 => iteK t_4 (Option.bind (GiIsWeight.P r_0_grams) fun (t_8 : Bool) =>
 appK jt_9 t_8) (appK jt_9 false)

set_option maxRecDepth 100000 in
set_option maxHeartbeats 2000000 in
theorem C (r_0 : PRate.Rate)   (w : World)   {r : Bool} (H : Hid (P r_0 = some r)) :
  Calls Tryz.prog 96 #[r_0.val] w (Gives (.bool r) w) := by
 have HB := Lib.hid (Below.refl w.heap.size w); unfold P at H; obtain ⟨m10, o10, k10, n10, l10⟩ := r_0; replace H := unRate_hid H; unfold PRate.Rate.val
 go_enter Tryz.func96, Tryz.ntmps96
 obtain ⟨i10, j10⟩ : ∃ x, w.alloc (.cells #[.int .i64 m10, .int .i64 o10, .int .i64 k10, .int .i64 n10, .int .i64 l10] 88) = x := ⟨_, rfl⟩; have t10 : Below w.heap.size w i10 := (by rw [← j10]; exact (Below.refl _ _).alloc (Nat.le_refl _) _); have x10 := Lib.hid (Below.step HB.out t10); clear t10; have b10 : i10.cell? ⟨w.heap.size, 0, none⟩ = some (.int .i64 m10) := (by rw [← j10]; exact box_new _ _ _ 0 _ rfl); have d10 : i10.cell? ⟨w.heap.size, 1, none⟩ = some (.int .i64 o10) := (by rw [← j10]; exact box_new _ _ _ 1 _ rfl); have a10 : i10.cell? ⟨w.heap.size, 2, none⟩ = some (.int .i64 k10) := (by rw [← j10]; exact box_new _ _ _ 2 _ rfl); have e10 : i10.cell? ⟨w.heap.size, 3, none⟩ = some (.int .i64 n10) := (by rw [← j10]; exact box_new _ _ _ 3 _ rfl); have c10 : i10.cell? ⟨w.heap.size, 4, none⟩ = some (.int .i64 l10) := (by rw [← j10]; exact box_new _ _ _ 4 _ rfl); replace H := bind_hid H; obtain ⟨t_4, qt_4, H⟩ := H; go_wp2_with fail; go_at_call 55; refine (GiIsZone.C (m10)  _    qt_4).mono ?_; rintro f11 wt_4 ⟨rfl, bt_4⟩; have r10 := Lib.hid (Below.step x10.out bt_4); replace b10 := cell_below bt_4 b10; replace d10 := cell_below bt_4 d10; replace a10 := cell_below bt_4 a10; replace e10 := cell_below bt_4 e10; replace c10 := cell_below bt_4 c10; clear bt_4; replace H := join_hid H
 cases t_4 with
 | false =>
  replace H := ite_f H; replace H := app_hid H; replace H := join_hid H; replace H := ite_f H; replace H := app_hid H; replace H := join_hid H; replace H := ite_f H; replace H := app_hid H; replace H := join_hid H; replace H := ite_f H; replace H := app_hid H; replace H := join_hid H; replace H := ite_f H; replace H := app_hid H; obtain rfl := ret_hid H; go_wp2_with fail; go_ret; exact ⟨rfl, r10.out⟩
 | true =>
  replace H := ite_t H; replace H := bind_hid H; obtain ⟨t_8, qt_8, H⟩ := H; go_wp2_with fail; go_at_call 56; refine (GiIsWeight.C (o10)  _    qt_8).mono ?_; rintro a11 wt_8 ⟨rfl, bt_8⟩; have p10 := Lib.hid (Below.step r10.out bt_8); replace b10 := cell_below bt_8 b10; replace d10 := cell_below bt_8 d10; replace a10 := cell_below bt_8 a10; replace e10 := cell_below bt_8 e10; replace c10 := cell_below bt_8 c10; clear bt_8; replace H := app_hid H; replace H := join_hid H
  cases t_8 with
  | false =>
   replace H := ite_f H; replace H := app_hid H; replace H := join_hid H; replace H := ite_f H; replace H := app_hid H; replace H := join_hid H; replace H := ite_f H; replace H := app_hid H; replace H := join_hid H; replace H := ite_f H; replace H := app_hid H; obtain rfl := ret_hid H; go_wp2_with fail; go_ret; exact ⟨rfl, p10.out⟩
  | true =>
   replace H := ite_t H; replace H := bind_hid H; obtain ⟨t_13, y10, H⟩ := H; go_wp2_with fail; go_at_call 57; refine (GiIsRateCents.C (l10)  _    y10).mono ?_; rintro b11 e11 ⟨rfl, f10⟩; have q10 := Lib.hid (Below.step p10.out f10); replace b10 := cell_below f10 b10; replace d10 := cell_below f10 d10; replace a10 := cell_below f10 a10; replace e10 := cell_below f10 e10; replace c10 := cell_below f10 c10; clear f10; replace H := app_hid H; replace H := join_hid H
   cases t_13 with
   | false =>
    replace H := ite_f H; replace H := app_hid H; replace H := join_hid H; replace H := ite_f H; replace H := app_hid H; replace H := join_hid H; replace H := ite_f H; replace H := app_hid H; obtain rfl := ret_hid H; go_wp2_with fail; go_ret; exact ⟨rfl, q10.out⟩
   | true =>
    replace H := ite_t H; replace H := bind_hid H; obtain ⟨t_18, z10, H⟩ := H; go_wp2_with fail; go_at_call 54; refine (GiIsDay.C (k10)  _    z10).mono ?_; rintro c11 i11 ⟨rfl, g10⟩; have s10 := Lib.hid (Below.step q10.out g10); replace b10 := cell_below g10 b10; replace d10 := cell_below g10 d10; replace a10 := cell_below g10 a10; replace e10 := cell_below g10 e10; replace c10 := cell_below g10 c10; clear g10; replace H := app_hid H; replace H := join_hid H
    cases t_18 with
    | false =>
     replace H := ite_f H; replace H := app_hid H; replace H := join_hid H; replace H := ite_f H; replace H := app_hid H; obtain rfl := ret_hid H; go_wp2_with fail; go_ret; exact ⟨rfl, s10.out⟩
    | true =>
     replace H := ite_t H; replace H := bind_hid H; obtain ⟨t_23, w10, H⟩ := H; go_wp2_with fail; go_at_call 54; refine (GiIsDay.C (n10)  _    w10).mono ?_; rintro h11 g11 ⟨rfl, h10⟩; have v10 := Lib.hid (Below.step s10.out h10); replace b10 := cell_below h10 b10; replace d10 := cell_below h10 d10; replace a10 := cell_below h10 a10; replace e10 := cell_below h10 e10; replace c10 := cell_below h10 c10; clear h10; replace H := app_hid H; replace H := join_hid H
     cases t_23 with
     | false =>
      replace H := ite_f H; replace H := app_hid H; obtain rfl := ret_hid H; go_wp2_with fail; go_ret; exact ⟨rfl, v10.out⟩
     | true =>
      replace H := ite_t H; replace H := let_hid H; obtain ⟨t_30, d11, H⟩ := H; replace H := app_hid H; obtain rfl := ret_hid H; go_wp2_with fail; go_ret; exact ⟨rfl, v10.out⟩
end Go.Proofs.YtihibckijdfidaaGreat.GiIsRate

namespace Go.Proofs.YtihibckijdfidaaGreat.PrateClass
set_option maxRecDepth 100000

structure rateClass where
  zone : Int
  grams : Int
def rateClass.cells (s : rateClass) : List Value := [.int .i64 s.zone, .int .i64 s.grams]
def rateClass.val (s : rateClass) : Value := .agg #[.int .i64 s.zone, .int .i64 s.grams]
/-- each field fits -/
def rateClass.fits (s : rateClass) : Prop := (Lit.int .i64 s.zone).wf = true ∧ (Lit.int .i64 s.grams).wf = true
def zero : rateClass := ⟨0, 0⟩
/-- the letters of its texts -/
def rateClass.wt (s : rateClass) : Nat := 0
def wts (l : List rateClass) : Nat := (l.map rateClass.wt).sum
theorem wts_snoc (l : List rateClass) (s : rateClass) : wts (l ++ [s]) = wts l + s.wt := by unfold wts; simp [List.sum_append]
theorem wts_succ {l : List rateClass} {k : Nat} {s : rateClass} (h : l[k]? = some s) : wts (l.take (k + 1)) = wts (l.take k) + s.wt := by
  have hk := List.getElem?_eq_some_iff.1 h
  rw [List.take_succ_eq_append_getElem hk.1, hk.2, wts_snoc]
theorem wts_take (l : List rateClass) (k : Nat) : wts (l.take k) ≤ wts l := by
  have : wts l = wts (l.take k) + wts (l.drop k) := by
    unfold wts; rw [← List.sum_append, ← List.map_append, List.take_append_drop]
  omega
theorem wts_all (l : List rateClass) : wts (l.take l.length) = wts l := by rw [List.take_of_length_le (Nat.le_refl _)]

/-- the cells of a list of records, one after the other -/
def flat (l : List rateClass) : List Value := l.flatMap rateClass.cells
theorem flat_nil : flat [] = [] := rfl
theorem flat_cons (s : rateClass) (l : List rateClass) : flat (s :: l) = s.cells ++ flat l := by simp [flat]
theorem flat_snoc (l : List rateClass) (s : rateClass) : flat (l ++ [s]) = flat l ++ s.cells := by simp [flat]
theorem flat_len (l : List rateClass) : (flat l).length = l.length * 2 := by
  induction l with
  | nil => rfl
  | cons s l ih => rw [flat_cons, List.length_append, ih]; simp [rateClass.cells]; omega
theorem flat_at : ∀ (l : List rateClass) (k : Nat) (s : rateClass), l[k]? = some s → ∀ j, j < 2 → (flat l)[k * 2 + j]? = s.cells[j]?
  | [], k, s, h, _, _ => by simp at h
  | r :: l, 0, s, h, j, hj => by
    obtain rfl : r = s := by simpa using h
    rw [flat_cons, List.getElem?_append_left (by simp [rateClass.cells]; omega)]; simp
  | r :: l, k + 1, s, h, j, hj => by
    rw [flat_cons, List.getElem?_append_right (by simp [rateClass.cells]; omega), show (k + 1) * 2 + j - r.cells.length = k * 2 + j by simp [rateClass.cells]; omega]
    exact flat_at l k s (by simpa using h) j hj
end Go.Proofs.YtihibckijdfidaaGreat.PrateClass

namespace Go.Proofs.YtihibckijdfidaaGreat.GoP
open Go.RowKit
def unrateClass {ρ : Type} (s : Go.Proofs.YtihibckijdfidaaGreat.PrateClass.rateClass) (f : Int → Int → Option ρ) : Option ρ := f s.zone s.grams
theorem unrateClass_hid {ρ : Type} {x0 : Int} {x1 : Int} {f : Int → Int → Option ρ} {r : ρ} (H : Hid (unrateClass ⟨x0, x1⟩ f = some r)) : Hid (f x0 x1 = some r) := H
end Go.Proofs.YtihibckijdfidaaGreat.GoP

namespace Go.Proofs.YtihibckijdfidaaGreat.GiClassOf
open Go.RowKit
open Go.Proofs.YtihibckijdfidaaGreat.Rowed Go.Proofs.YtihibckijdfidaaGreat.Turn Go.Proofs.YtihibckijdfidaaGreat.Aid Go.Proofs.YtihibckijdfidaaGreat.GoP Go.Proofs.YtihibckijdfidaaGreat.GoM

def P (r_0 : PRate.Rate) : Option (PrateClass.rateClass) :=
 unRate r_0 fun (r_0_zone : Int) (r_0_grams : Int) (r_0_from_ : Int) (r_0_until_ : Int) (r_0_cents : Int) =>
 some (PrateClass.rateClass.mk r_0_zone r_0_grams)

set_option maxRecDepth 100000 in
set_option maxHeartbeats 2000000 in
theorem C (r_0 : PRate.Rate)   (w : World)   {r : PrateClass.rateClass} (H : Hid (P r_0 = some r)) :
  Calls Tryz.prog 103 #[r_0.val] w (Gives ((PrateClass.rateClass.val r)) w) := by
 have HB := Lib.hid (Below.refl w.heap.size w); unfold P at H; obtain ⟨b10, d10, o10, t10, m10⟩ := r_0; replace H := unRate_hid H; unfold PRate.Rate.val
 go_enter Tryz.func103, Tryz.ntmps103
 obtain ⟨a10, f10⟩ : ∃ x, w.alloc (.cells #[.int .i64 b10, .int .i64 d10, .int .i64 o10, .int .i64 t10, .int .i64 m10] 88) = x := ⟨_, rfl⟩; have r10 : Below w.heap.size w a10 := (by rw [← f10]; exact (Below.refl _ _).alloc (Nat.le_refl _) _); have l10 := Lib.hid (Below.step HB.out r10); clear r10; have p10 : a10.cell? ⟨w.heap.size, 0, none⟩ = some (.int .i64 b10) := (by rw [← f10]; exact box_new _ _ _ 0 _ rfl); have e11 : a10.cell? ⟨w.heap.size, 1, none⟩ = some (.int .i64 d10) := (by rw [← f10]; exact box_new _ _ _ 1 _ rfl); have v10 : a10.cell? ⟨w.heap.size, 2, none⟩ = some (.int .i64 o10) := (by rw [← f10]; exact box_new _ _ _ 2 _ rfl); have w10 : a10.cell? ⟨w.heap.size, 3, none⟩ = some (.int .i64 t10) := (by rw [← f10]; exact box_new _ _ _ 3 _ rfl); have g11 : a10.cell? ⟨w.heap.size, 4, none⟩ = some (.int .i64 m10) := (by rw [← f10]; exact box_new _ _ _ 4 _ rfl); obtain ⟨g10, i10⟩ : ∃ x, a10.alloc (.cells #[.int .i64 0, .int .i64 0] 114) = x := ⟨_, rfl⟩; have e10 : Below a10.heap.size a10 g10 := (by rw [← i10]; exact (Below.refl _ _).alloc (Nat.le_refl _) _); have h10 := Lib.hid (apart_box p10); have q10 := Lib.hid (Below.step l10.out e10); have f11 := cell_below e10 p10; have d11 := cell_below e10 e11; have y10 := cell_below e10 v10; have a11 := cell_below e10 w10; have z10 := cell_below e10 g11; clear e10; have i11 : g10.cell? ⟨a10.heap.size, 0, none⟩ = some (.int .i64 0) := (by rw [← i10]; exact box_new _ _ _ 0 _ rfl); have h11 : g10.cell? ⟨a10.heap.size, 1, none⟩ = some (.int .i64 0) := (by rw [← i10]; exact box_new _ _ _ 1 _ rfl); have Ot_1 : Hid (g10.ownsRow w.heap.size 114 2 (.slice (some ⟨a10.heap.size, 0, none⟩) 1 1) 1 [.int .i64 0, .int .i64 0]) := Lib.hid (by rw [← i10]; exact own_laid (n := 1) l10.out.size rfl rfl (by unfold maxLen; omega)); obtain ⟨j10, n10⟩ : ∃ x, ((g10).setCell ⟨a10.heap.size, 0, none⟩ (.int .i64 b10)).setCell ⟨a10.heap.size, 1, none⟩ (.int .i64 d10) = x := ⟨_, rfl⟩; have n11 := Ot_1.out.frozenAt 0; have j11 := Ot_1.out.frozenAt 1; have k10 := Lib.hid (own_stores [(0, .int .i64 b10), (1, .int .i64 d10)] Ot_1.out); have s10 : Hid (j10.ownsRow w.heap.size 114 2 (.slice (some ⟨a10.heap.size, 0, none⟩) 1 1) 1 [.int .i64 b10, .int .i64 d10]) := Lib.hid (by rw [← n10]; exact k10.out.1); have c10 : Hid (g10.grownBy j10 (Value.slice (some ⟨a10.heap.size, 0, none⟩) 1 1).ownBlock) := Lib.hid (by rw [← n10]; exact k10.out.2); have x10 := Lib.hid (q10.out.grown c10.out q10.out.size (fun q hq => (Ot_1.out.lt q hq).1)); clear k10; have k11 := cell_other f11 c10.out h10.out; have p11 := cell_other d11 c10.out h10.out; have m11 := cell_other y10 c10.out h10.out; have l11 := cell_other a11 c10.out h10.out; have o11 := cell_other z10 c10.out h10.out; clear Ot_1 c10; have c11 : j10.cell? ⟨a10.heap.size, 0, none⟩ = some (.int .i64 b10) := s10.out.cells rfl 0 _ rfl; have b11 : j10.cell? ⟨a10.heap.size, 1, none⟩ = some (.int .i64 d10) := s10.out.cells rfl 1 _ rfl; cases ret_hid H; go_wp2_with fail
 (try simp only [Exit.inBlock, Exit.then])
 refine bodyPost_ret (v := .agg #[.int .i64 b10, .int .i64 d10]) ?hr_ ?hd_ ?_
 case hd_ => rfl
 case hr_ => simp [results, Tryz.results103, c11, b11, go_sem]
 exact ⟨rfl, x10.out⟩
end Go.Proofs.YtihibckijdfidaaGreat.GiClassOf

namespace Go.Proofs.YtihibckijdfidaaGreat.GxCmpIsNaNInt
open Go.RowKit
open Go.Proofs.YtihibckijdfidaaGreat.Rowed Go.Proofs.YtihibckijdfidaaGreat.Turn Go.Proofs.YtihibckijdfidaaGreat.Aid Go.Proofs.YtihibckijdfidaaGreat.GoP Go.Proofs.YtihibckijdfidaaGreat.GoM

def P (x : Int) : Option (Bool) :=
  some false

set_option maxRecDepth 100000 in
set_option maxHeartbeats 2000000 in
theorem C (x : Int)   (w : World)   {r : Bool} (H : Hid (P x = some r)) :
    Calls Tryz.prog 84 #[.int .i64 x] w (Gives (.bool r) w) := by
  have HB := Lib.hid (Below.refl w.heap.size w)
  unfold P at H
  go_enter Tryz.func84, Tryz.ntmps84
  obtain rfl := ret_hid H
  go_wp2_with fail
  go_ret
  exact ⟨rfl, HB.out⟩

set_option maxRecDepth 100000 in
set_option maxHeartbeats 2000000 in
theorem C0 (x : Int)   (w : World)   {r : Bool} (H : Hid (P x = some r)) :
    Calls Tryz.prog 84 #[.int .i64 x] w (fun e w'' => e = .returned (.bool r) ∧ w'' = w) := by
  have HB := Lib.hid (Below.refl w.heap.size w)
  unfold P at H
  go_enter Tryz.func84, Tryz.ntmps84
  obtain rfl := ret_hid H
  go_wp2_with fail
  go_ret
  exact ⟨rfl, rfl⟩
end Go.Proofs.YtihibckijdfidaaGreat.GxCmpIsNaNInt

namespace Go.Proofs.YtihibckijdfidaaGreat.GxCmpCompareInt
open Go.RowKit
open Go.Proofs.YtihibckijdfidaaGreat.Rowed Go.Proofs.YtihibckijdfidaaGreat.Turn Go.Proofs.YtihibckijdfidaaGreat.Aid Go.Proofs.YtihibckijdfidaaGreat.GoP Go.Proofs.YtihibckijdfidaaGreat.GoM

def P (x : Int) (y : Int) : Option (Int) :=
  Option.bind (Go.Proofs.YtihibckijdfidaaGreat.GxCmpIsNaNInt.P x) fun (t_2 : Bool) =>
  Option.bind (Go.Proofs.YtihibckijdfidaaGreat.GxCmpIsNaNInt.P y) fun (t_5 : Bool) =>
  iteK t_2
  (iteK t_5
  (some 0)
  (some (-1)))
  (iteK t_5
  (some 1)
  (letK (decide (x < y)) fun (t_15 : Bool) =>
  iteK t_15
  (some (-1))
  (letK (decide (y < x)) fun (t_19 : Bool) =>
  iteK t_19
  (some 1)
  (some 0))))

set_option maxRecDepth 100000 in
set_option maxHeartbeats 2000000 in
theorem C (x : Int) (y : Int)   (w : World)   {r : Int} (H : Hid (P x y = some r)) :
    Calls Tryz.prog 47 #[.int .i64 x, .int .i64 y] w (Gives (.int .i64 r) w) := by
  have HB := Lib.hid (Below.refl w.heap.size w)
  unfold P at H
  go_enter Tryz.func47, Tryz.ntmps47
  replace H := bind_hid H
  obtain ⟨t_2, qt_2, H⟩ := H
  go_wp2_with fail
  go_at_call 84
  refine (Go.Proofs.YtihibckijdfidaaGreat.GxCmpIsNaNInt.C (x)  _    qt_2).mono ?_
  rintro e_t_2 wt_2 ⟨rfl, bt_2⟩
  have HBwt_2 := Lib.hid (Below.step HB.out bt_2)
  clear bt_2
  replace H := bind_hid H
  obtain ⟨t_5, qt_5, H⟩ := H
  go_wp2_with fail
  go_at_call 84
  refine (Go.Proofs.YtihibckijdfidaaGreat.GxCmpIsNaNInt.C (y)  _    qt_5).mono ?_
  rintro e_t_5 wt_5 ⟨rfl, bt_5⟩
  have HBwt_5 := Lib.hid (Below.step HBwt_2.out bt_5)
  clear bt_5
  cases t_2 with
  | false =>
    replace H := ite_f H
    cases t_5 with
    | false =>
      replace H := ite_f H
      replace H := let_hid H
      obtain ⟨t_15, ht_15, H⟩ := H
      cases t_15 with
      | false =>
        replace H := ite_f H
        replace H := let_hid H
        obtain ⟨t_19, ht_19, H⟩ := H
        cases t_19 with
        | false =>
          replace H := ite_f H
          obtain rfl := ret_hid H
          go_wp2_with fail
          go_ret
          exact ⟨rfl, HBwt_5.out⟩
        | true =>
          replace H := ite_t H
          obtain rfl := ret_hid H
          go_wp2_with fail
          go_ret
          exact ⟨rfl, HBwt_5.out⟩
      | true =>
        replace H := ite_t H
        obtain rfl := ret_hid H
        go_wp2_with fail
        go_ret
        exact ⟨rfl, HBwt_5.out⟩
    | true =>
      replace H := ite_t H
      obtain rfl := ret_hid H
      go_wp2_with fail
      go_ret
      exact ⟨rfl, HBwt_5.out⟩
  | true =>
    replace H := ite_t H
    cases t_5 with
    | false =>
      replace H := ite_f H
      obtain rfl := ret_hid H
      go_wp2_with fail
      go_ret
      exact ⟨rfl, HBwt_5.out⟩
    | true =>
      replace H := ite_t H
      obtain rfl := ret_hid H
      go_wp2_with fail
      go_ret
      exact ⟨rfl, HBwt_5.out⟩
end Go.Proofs.YtihibckijdfidaaGreat.GxCmpCompareInt

namespace Go.Proofs.YtihibckijdfidaaGreat.GxCmpOrInt
open Go.RowKit
open Go.Proofs.YtihibckijdfidaaGreat.Rowed Go.Proofs.YtihibckijdfidaaGreat.Turn Go.Proofs.YtihibckijdfidaaGreat.Aid Go.Proofs.YtihibckijdfidaaGreat.GoP Go.Proofs.YtihibckijdfidaaGreat.GoM

def l0 (vals : (List Int)) (k0 : Nat) (s : Unit) (nx0 bk0 : Unit → Option (Int)) : Option (Int) :=
  
  Option.bind (idx vals (k0 : Int)) fun (yt_6 : Int) =>
  letK (yt_6 != 0) fun (t_11 : Bool) =>
  iteK t_11
  (some yt_6)
  (appK nx0 ())

def e0  (s : Unit) : Option (Int) :=
  
  some 0

def P (vals : (List Int)) : Option (Int) :=
  cntK (l0 vals) (vals.length) 0 () (e0 )

set_option maxRecDepth 100000 in
set_option maxHeartbeats 2000000 in
theorem C (vals : (List Int)) (A0 : Option Addr) (c0 : Nat)  (w : World) (M0 : Hid (Cells w 1 A0 vals.length (Go.Proofs.YtihibckijdfidaaGreat.HelpInt.iv vals))) (N0 : Hid (vals.length ≤ 9223372036854775807))  {r : Int} (H : Hid (P vals = some r)) :
    Calls Tryz.prog 46 #[.slice A0 vals.length c0] w (Gives (.int .i64 r) w) := by
  have HB := Lib.hid (Below.refl w.heap.size w)
  unfold P at H
  have N0o := N0.out
  go_enter Tryz.func46, Tryz.ntmps46
  go_wp2_with fail
  go_loopg [8] (vals.length) (fun m_ v8_ wr => ∃ (k0 : Nat) , k0 + m_ = vals.length ∧ v8_ = .int .i64 (k0 : Int) ∧ Hid (cntK (l0 vals) m_ k0 () (e0 ) = some r) ∧ Hid (Below w.heap.size w wr))
  case atStart => exact ⟨0, by omega, rfl, H, HB⟩
  case round =>
    obtain ⟨k0, hkm0, rfl, H, HBwr0⟩ := hrel
    rename World => wr0
    cases gk with
    | zero =>
      obtain rfl : k0 = vals.length := by omega
      have hc0 : decide (((vals.length : Nat) : Int) < ((vals.length : Nat) : Int)) = false := by simp
      replace H := cnt_zero H
      unfold e0 at H
      obtain rfl := ret_hid H
      go_wp2_with fail
      go_ret
      exact ⟨rfl, HBwr0.out⟩
    | succ m0 =>
      have hlt0 : k0 < vals.length := by omega
      have hc0 : decide ((k0 : Int) < ((vals.length : Nat) : Int)) = true := by simp; omega
      replace H := cnt_succ H
      unfold l0 at H
      replace H := idx_hid H
      obtain ⟨nt_6, yt_6, et_6, lt_6, gt_6, H⟩ := H
      obtain rfl : k0 = nt_6 := by omega
      clear et_6
      obtain ⟨ab_t_6, ao_t_6, zt_6, At_6, z_t_6, ct_6_0⟩ := Go.Proofs.YtihibckijdfidaaGreat.HelpInt.Ints.at_ M0.out lt_6
      obtain rfl := Option.some.inj (gt_6.out.symm.trans z_t_6)
      subst At_6
      have ltt_6 := cell_lt ct_6_0
      replace ct_6_0 := cell_below HBwr0.out ct_6_0
      clear z_t_6
      have b0t_6 : (0 : Int) ≤ (k0 : Int) := by omega
      have b1t_6 : (k0 : Int) < ((vals.length : Nat) : Int) := by omega
      have b2t_6 : ((k0 : Int)).toNat = k0 := by omega
      replace H := let_hid H
      obtain ⟨t_11, ht_11, H⟩ := H
      cases t_11 with
      | false =>
        replace H := ite_f H
        replace H := app_hid H
        go_wp2_with fail
        go_roundg m0
        case measure => omega
        case rel => exact ⟨k0 + 1, by omega, by go_num, H, HBwr0⟩
      | true =>
        replace H := ite_t H
        obtain rfl := ret_hid H
        go_wp2_with fail
        go_ret
        exact ⟨rfl, HBwr0.out⟩
end Go.Proofs.YtihibckijdfidaaGreat.GxCmpOrInt

