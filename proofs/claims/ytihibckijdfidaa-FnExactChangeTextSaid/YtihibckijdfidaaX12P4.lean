/- Texts on which the proofs of several laws stand, one behind the other (4 of 24). No condition of their own. -/
import Derived.Test.YtihibckijdfidaaChecked
import Derived.Test.YtihibckijdfidaaX12P1
import Derived.Test.YtihibckijdfidaaX12P2
import Derived.Test.YtihibckijdfidaaX12P3
import Derived.WalkKit
import Derived.WalkSpells
import Derived.WalkLawsBesides
import Derived.BigQuiet
import Derived.OwnWalk
import Derived.Deep.LoopGhost
import Derived.Deep.QuietTactic
import Derived.IntWalk
import Derived.Lib.QuietBelow
import Derived.Deep.AppendLies
import Derived.Lib.SliceRun
set_option linter.unusedVariables false
set_option linter.unusedSimpArgs false
namespace Go.Proofs.Ytihibckijdfidaa.GiAreRates
open Go.RowKit
open Go.Proofs.Ytihibckijdfidaa.Rowed Go.Proofs.Ytihibckijdfidaa.Turn Go.Proofs.Ytihibckijdfidaa.Aid Go.Proofs.Ytihibckijdfidaa.GoP Go.Proofs.Ytihibckijdfidaa.GoM

def l0 (list : (List PRate.Rate)) (k0 : Nat) (s : Unit) (nx0 bk0 : Unit → Option (Bool)) : Option (Bool) :=
 
 Option.bind (idx list (k0 : Int)) fun (yt_10 : PRate.Rate) =>
 unRate yt_10 fun (t_10_zone : Int) (t_10_grams : Int) (t_10_from_ : Int) (t_10_until_ : Int) (t_10_cents : Int) =>
 Option.bind (GiIsRate.P (PRate.Rate.mk t_10_zone t_10_grams t_10_from_ t_10_until_ t_10_cents)) fun (t_16 : Bool) =>
 letK (!t_16) fun (t_17 : Bool) =>
 joinK (fun (t_31 : Bool) =>
 iteK t_31
 (some false)
 (appK nx0 ())) fun jt_31 => iteK t_17 (appK jt_31 true) (letK (decide (0 < (k0 : Int))) fun (t_20 : Bool) =>
 joinK (fun (t_30 : Bool) =>
 appK jt_31 t_30) fun jt_30 => iteK t_20 (letK (IntKind.i64.wrap ((k0 : Int) - 1)) fun (t_25 : Int) =>
 Option.bind (idx list t_25) fun (yt_26 : PRate.Rate) =>
 unRate yt_26 fun (t_26_zone : Int) (t_26_grams : Int) (t_26_from_ : Int) (t_26_until_ : Int) (t_26_cents : Int) =>
 Option.bind (GiCanFollow.P (PRate.Rate.mk t_10_zone t_10_grams t_10_from_ t_10_until_ t_10_cents) (PRate.Rate.mk t_26_zone t_26_grams t_26_from_ t_26_until_ t_26_cents)) fun (t_28 : Bool) =>
 letK (!t_28) fun (t_29 : Bool) =>
 appK jt_30 t_29) (appK jt_30 false))

def e0  (s : Unit) : Option (Bool) :=
 
 some true

def P (list : (List PRate.Rate)) : Option (Bool) :=
 letK (decide (16 < (list.length : Int))) fun (t_3 : Bool) =>
 iteK t_3
 (some false)
 (cntK (l0 list) (list.length) 0 () (e0 ))

set_option maxRecDepth 100000 in
set_option maxHeartbeats 2000000 in
theorem C (list : (List PRate.Rate)) (A0 : Option Addr) (c0 : Nat)  (w : World) (M0 : Hid (Cells w 5 A0 list.length (PRate.flat list))) (N0 : Hid (list.length ≤ 9223372036854775807))  {r : Bool} (H : Hid (P list = some r)) :
  Calls Try.prog 160 #[.slice A0 list.length c0] w (Gives (.bool r) w) := by
 have HB := Lib.hid (Below.refl w.heap.size w); unfold P at H; have N0o := N0.out
 go_enter Try.func160, Try.ntmps160
 replace H := let_hid H; obtain ⟨t_3, ht_3, H⟩ := H
 cases t_3 with
 | false =>
  have o12 : ¬ (16 < list.length) := (by have := of_decide_eq_false ht_3; omega); replace H := ite_f H; go_wp2_with fail; go_loopg [10] (list.length) (fun m_ v10_ wr => ∃ (k0 : Nat) , k0 + m_ = list.length ∧ v10_ = .int .i64 (k0 : Int) ∧ Hid (cntK (l0 list) m_ k0 () (e0 ) = some r) ∧ Hid (Below w.heap.size w wr))
  case atStart => exact ⟨0, by omega, rfl, H, HB⟩
  case round =>
   obtain ⟨k0, hkm0, rfl, H, d11⟩ := hrel; rename World => wr0
   cases gk with
   | zero =>
    obtain rfl : k0 = list.length := (by omega); have hc0 : decide (((list.length : Nat) : Int) < ((list.length : Nat) : Int)) = false := (by simp); replace H := cnt_zero H; unfold e0 at H; obtain rfl := ret_hid H; go_wp2_with fail; go_ret; exact ⟨rfl, d11.out⟩
   | succ m0 =>
    have hlt0 : k0 < list.length := (by omega); have hc0 : decide ((k0 : Int) < ((list.length : Nat) : Int)) = true := (by simp; omega); replace H := cnt_succ H; unfold l0 at H; replace H := idx_hid H; obtain ⟨l12, v12, x12, p12, n12, H⟩ := H; obtain rfl : k0 = l12 := (by omega); clear x12; obtain ⟨j11, k11, g11, i11, h11⟩ := v12; replace H := unRate_hid H; obtain ⟨a13, i13, f13, j12, a12, l11, r11, t11, p11, w11⟩ := ORate.at_ M0.out p12; obtain rfl := Option.some.inj (n12.out.symm.trans a12); subst j12; have c13 := cell_lt l11; replace l11 := cell_below d11.out l11; replace r11 := cell_below d11.out r11; replace t11 := cell_below d11.out t11; replace p11 := cell_below d11.out p11; replace w11 := cell_below d11.out w11; clear a12; have k13 : (0 : Int) ≤ (k0 : Int) := (by omega); have g13 : (k0 : Int) < ((list.length : Nat) : Int) := (by omega); have j13 : ((k0 : Int)).toNat = k0 := (by omega); obtain ⟨p10, f11⟩ : ∃ x, wr0.alloc (.cells #[.int .i64 j11, .int .i64 k11, .int .i64 g11, .int .i64 i11, .int .i64 h11] 120) = x := ⟨_, rfl⟩; have e11 : Below wr0.heap.size wr0 p10 := (by rw [← f11]; exact (Below.refl _ _).alloc (Nat.le_refl _) _); have q10 := Lib.hid (Below.step d11.out e11); have g10 := cell_below e11 l11; have j10 := cell_below e11 r11; have d10 := cell_below e11 t11; have h10 := cell_below e11 p11; have f10 := cell_below e11 w11; clear e11; have c10 : p10.cell? ⟨wr0.heap.size, 0, none⟩ = some (.int .i64 j11) := (by rw [← f11]; exact box_new _ _ _ 0 _ rfl); have i10 : p10.cell? ⟨wr0.heap.size, 1, none⟩ = some (.int .i64 k11) := (by rw [← f11]; exact box_new _ _ _ 1 _ rfl); have a10 : p10.cell? ⟨wr0.heap.size, 2, none⟩ = some (.int .i64 g11) := (by rw [← f11]; exact box_new _ _ _ 2 _ rfl); have b10 : p10.cell? ⟨wr0.heap.size, 3, none⟩ = some (.int .i64 i11) := (by rw [← f11]; exact box_new _ _ _ 3 _ rfl); have e10 : p10.cell? ⟨wr0.heap.size, 4, none⟩ = some (.int .i64 h11) := (by rw [← f11]; exact box_new _ _ _ 4 _ rfl); go_wp2_with fail; clear l11 r11 t11 p11 w11; have w10 := Lib.hid g10; replace g10 := cell_regrown g10; have t10 := Lib.hid j10; replace j10 := cell_regrown j10; have s10 := Lib.hid d10; replace d10 := cell_regrown d10; have v10 := Lib.hid h10; replace h10 := cell_regrown h10; have r10 := Lib.hid f10; replace f10 := cell_regrown f10; have b11 := Lib.hid c10; replace c10 := cell_regrown c10; have y10 := Lib.hid i10; replace i10 := cell_regrown i10; have x10 := Lib.hid a10; replace a10 := cell_regrown a10; have c11 := Lib.hid b10; replace b10 := cell_regrown b10; have z10 := Lib.hid e10; replace e10 := cell_regrown e10; replace H := bind_hid H; obtain ⟨t_16, k12, H⟩ := H; have a11 : ∀ d os, Calls Try.prog 201 #[.agg #[.int .i64 j11, .int .i64 k11, .int .i64 g11, .int .i64 i11, .int .i64 h11]] (Go.Sort.grow (redrawn p10 d) os) fun e w'' => e = .returned (.bool t_16) ∧ ∃ p : Regrown, w'' = Go.Sort.grow (redrawn p10 p.d) p.os := fun d os => Calls.regrown_of (GiIsRate.C ((PRate.Rate.mk j11 k11 g11 i11 h11))  _    k12)
    cases t_16 with
    | false =>
     replace H := let_hid H; obtain ⟨t_17, y11, H⟩ := H; obtain rfl : t_17 = true := y11.symm; replace H := join_hid H; replace H := ite_t H; replace H := app_hid H; refine wp_region_quiet_below (by kernel_rfl) (by kernel_rfl) ?_
     repeat (go_big_quiet_step (first | (go_at_call 201; exact a11 _ _)))
     refine wpQuiet_nil ?_; intro Y6 hY6; replace hY6 := below_class hY6; clear a11; replace g10 := w10.out; clear w10; replace j10 := t10.out; clear t10; replace d10 := s10.out; clear s10; replace h10 := v10.out; clear v10; replace f10 := r10.out; clear r10; replace c10 := b11.out; clear b11; replace i10 := y10.out; clear y10; replace a10 := x10.out; clear x10; replace b10 := c11.out; clear c11; replace e10 := z10.out; clear z10; have HBY6 := Lib.hid (Below.step q10.out hY6); replace g10 := cell_below hY6 g10; replace j10 := cell_below hY6 j10; replace d10 := cell_below hY6 d10; replace h10 := cell_below hY6 h10; replace f10 := cell_below hY6 f10; replace c10 := cell_below hY6 c10; replace i10 := cell_below hY6 i10; replace a10 := cell_below hY6 a10; replace b10 := cell_below hY6 b10; replace e10 := cell_below hY6 e10; clear hY6; replace H := ite_t H; obtain rfl := ret_hid H; go_wp2_with fail; go_ret; exact ⟨rfl, HBY6.out⟩
    | true =>
     replace H := let_hid H; obtain ⟨t_17, y11, H⟩ := H; obtain rfl : t_17 = false := y11.symm; replace H := join_hid H; replace H := ite_f H; replace H := let_hid H; obtain ⟨t_20, h12, H⟩ := H; replace H := join_hid H
     cases t_20 with
     | false =>
      have s12 : ¬ (0 < k0) := (by have := of_decide_eq_false h12; omega); replace H := ite_f H; replace H := app_hid H; replace H := app_hid H; refine wp_region_quiet_below (by kernel_rfl) (by kernel_rfl) ?_
      repeat (go_big_quiet_step (first | (go_at_call 201; exact a11 _ _)))
      refine wpQuiet_nil ?_; intro Y6 hY6; replace hY6 := below_class hY6; clear a11; replace g10 := w10.out; clear w10; replace j10 := t10.out; clear t10; replace d10 := s10.out; clear s10; replace h10 := v10.out; clear v10; replace f10 := r10.out; clear r10; replace c10 := b11.out; clear b11; replace i10 := y10.out; clear y10; replace a10 := x10.out; clear x10; replace b10 := c11.out; clear c11; replace e10 := z10.out; clear z10; have HBY6 := Lib.hid (Below.step q10.out hY6); replace g10 := cell_below hY6 g10; replace j10 := cell_below hY6 j10; replace d10 := cell_below hY6 d10; replace h10 := cell_below hY6 h10; replace f10 := cell_below hY6 f10; replace c10 := cell_below hY6 c10; replace i10 := cell_below hY6 i10; replace a10 := cell_below hY6 a10; replace b10 := cell_below hY6 b10; replace e10 := cell_below hY6 e10; clear hY6; replace H := ite_f H; replace H := app_hid H; go_wp2_with fail
      go_roundg m0
      case measure => omega
      case rel => exact ⟨k0 + 1, by omega, by go_num, H, HBY6⟩
     | true =>
      have s12 : 0 < k0 := (by have := of_decide_eq_true h12; omega); replace H := ite_t H; replace H := let_hid H; obtain ⟨t_25, h13, H⟩ := H; replace H := idx_hid H; obtain ⟨m11, t12, q12, w12, m12, H⟩ := H; subst q12; obtain ⟨d12, e12, g12, b12, i12⟩ := t12; replace H := unRate_hid H; obtain ⟨m13, z12, e13, c12, f12, k10, l10, n10, m10, o10⟩ := ORate.at_ M0.out w12; obtain rfl := Option.some.inj (m12.out.symm.trans f12); simp only [Option.some.injEq, Addr.mk.injEq] at c12; obtain ⟨rfl, rfl, _⟩ := c12; have d13 := cell_lt k10; replace k10 := cell_below q10.out k10; replace l10 := cell_below q10.out l10; replace n10 := cell_below q10.out n10; replace m10 := cell_below q10.out m10; replace o10 := cell_below q10.out o10; clear f12; have l13 : (0 : Int) ≤ (m11 : Int) := (by omega); have y12 : (m11 : Int) < ((list.length : Nat) : Int) := (by omega); have b13 : ((m11 : Int)).toNat = m11 := (by omega); have s11 := Lib.hid k10; replace k10 := cell_regrown k10; have x11 := Lib.hid l10; replace l10 := cell_regrown l10; have v11 := Lib.hid n10; replace n10 := cell_regrown n10; have n11 := Lib.hid m10; replace m10 := cell_regrown m10; have o11 := Lib.hid o10; replace o10 := cell_regrown o10; replace H := bind_hid H; obtain ⟨t_28, r12, H⟩ := H; have q11 : ∀ d os, Calls Try.prog 202 #[.agg #[.int .i64 j11, .int .i64 k11, .int .i64 g11, .int .i64 i11, .int .i64 h11], .agg #[.int .i64 d12, .int .i64 e12, .int .i64 g12, .int .i64 b12, .int .i64 i12]] (Go.Sort.grow (redrawn p10 d) os) fun e w'' => e = .returned (.bool t_28) ∧ ∃ p : Regrown, w'' = Go.Sort.grow (redrawn p10 p.d) p.os := fun d os => Calls.regrown_of (GiCanFollow.C ((PRate.Rate.mk j11 k11 g11 i11 h11)) ((PRate.Rate.mk d12 e12 g12 b12 i12))  _    r12)
      cases t_28 with
      | false =>
       replace H := let_hid H; obtain ⟨t_29, z11, H⟩ := H; obtain rfl : t_29 = true := z11.symm; replace H := app_hid H; replace H := app_hid H; refine wp_region_quiet_below (by kernel_rfl) (by kernel_rfl) ?_
       repeat (go_big_quiet_step (first | (go_at_call 201; exact a11 _ _) | (go_at_call 202; exact q11 _ _)))
       refine wpQuiet_nil ?_; intro Y6 hY6; replace hY6 := below_class hY6; clear a11 q11; replace g10 := w10.out; clear w10; replace j10 := t10.out; clear t10; replace d10 := s10.out; clear s10; replace h10 := v10.out; clear v10; replace f10 := r10.out; clear r10; replace c10 := b11.out; clear b11; replace i10 := y10.out; clear y10; replace a10 := x10.out; clear x10; replace b10 := c11.out; clear c11; replace e10 := z10.out; clear z10; replace k10 := s11.out; clear s11; replace l10 := x11.out; clear x11; replace n10 := v11.out; clear v11; replace m10 := n11.out; clear n11; replace o10 := o11.out; clear o11; have HBY6 := Lib.hid (Below.step q10.out hY6); replace g10 := cell_below hY6 g10; replace j10 := cell_below hY6 j10; replace d10 := cell_below hY6 d10; replace h10 := cell_below hY6 h10; replace f10 := cell_below hY6 f10; replace c10 := cell_below hY6 c10; replace i10 := cell_below hY6 i10; replace a10 := cell_below hY6 a10; replace b10 := cell_below hY6 b10; replace e10 := cell_below hY6 e10; replace k10 := cell_below hY6 k10; replace l10 := cell_below hY6 l10; replace n10 := cell_below hY6 n10; replace m10 := cell_below hY6 m10; replace o10 := cell_below hY6 o10; clear hY6; replace H := ite_t H; obtain rfl := ret_hid H; go_wp2_with fail; go_ret; exact ⟨rfl, HBY6.out⟩
      | true =>
       replace H := let_hid H; obtain ⟨t_29, z11, H⟩ := H; obtain rfl : t_29 = false := z11.symm; replace H := app_hid H; replace H := app_hid H; refine wp_region_quiet_below (by kernel_rfl) (by kernel_rfl) ?_
       repeat (go_big_quiet_step (first | (go_at_call 201; exact a11 _ _) | (go_at_call 202; exact q11 _ _)))
       refine wpQuiet_nil ?_; intro Y6 hY6; replace hY6 := below_class hY6; clear a11 q11; replace g10 := w10.out; clear w10; replace j10 := t10.out; clear t10; replace d10 := s10.out; clear s10; replace h10 := v10.out; clear v10; replace f10 := r10.out; clear r10; replace c10 := b11.out; clear b11; replace i10 := y10.out; clear y10; replace a10 := x10.out; clear x10; replace b10 := c11.out; clear c11; replace e10 := z10.out; clear z10; replace k10 := s11.out; clear s11; replace l10 := x11.out; clear x11; replace n10 := v11.out; clear v11; replace m10 := n11.out; clear n11; replace o10 := o11.out; clear o11; have HBY6 := Lib.hid (Below.step q10.out hY6); replace g10 := cell_below hY6 g10; replace j10 := cell_below hY6 j10; replace d10 := cell_below hY6 d10; replace h10 := cell_below hY6 h10; replace f10 := cell_below hY6 f10; replace c10 := cell_below hY6 c10; replace i10 := cell_below hY6 i10; replace a10 := cell_below hY6 a10; replace b10 := cell_below hY6 b10; replace e10 := cell_below hY6 e10; replace k10 := cell_below hY6 k10; replace l10 := cell_below hY6 l10; replace n10 := cell_below hY6 n10; replace m10 := cell_below hY6 m10; replace o10 := cell_below hY6 o10; clear hY6; replace H := ite_f H; replace H := app_hid H; go_wp2_with fail
       go_roundg m0
       case measure => omega
       case rel => exact ⟨k0 + 1, by omega, by go_num, H, HBY6⟩
 | true =>
  have o12 : 16 < list.length := (by have := of_decide_eq_true ht_3; omega); replace H := ite_t H; obtain rfl := ret_hid H; go_wp2_with fail; go_ret; exact ⟨rfl, HB.out⟩
end Go.Proofs.Ytihibckijdfidaa.GiAreRates

namespace Go.Proofs.Ytihibckijdfidaa.GiIsPostOffice
open Go.RowKit
open Go.Proofs.Ytihibckijdfidaa.Rowed Go.Proofs.Ytihibckijdfidaa.Turn Go.Proofs.Ytihibckijdfidaa.Aid Go.Proofs.Ytihibckijdfidaa.GoP Go.Proofs.Ytihibckijdfidaa.GoM

def P (office : Int) : Option (Bool) :=
  Option.bind (Go.Proofs.Ytihibckijdfidaa.GiWithin.P office 0 9) fun (t_2 : Bool) =>
  some t_2

set_option maxRecDepth 100000 in
set_option maxHeartbeats 2000000 in
theorem C (office : Int)   (w : World)   {r : Bool} (H : Hid (P office = some r)) :
    Calls Try.prog 176 #[.int .i64 office] w (Gives (.bool r) w) := by
  have HB := Lib.hid (Below.refl w.heap.size w)
  unfold P at H
  go_enter Try.func176, Try.ntmps176
  replace H := bind_hid H
  obtain ⟨t_2, qt_2, H⟩ := H
  go_wp2_with fail
  go_at_call 119
  refine (Go.Proofs.Ytihibckijdfidaa.GiWithin.C (office) (0) (9)  _    qt_2).mono ?_
  rintro e_t_2 wt_2 ⟨rfl, bt_2⟩
  have HBwt_2 := Lib.hid (Below.step HB.out bt_2)
  clear bt_2
  obtain rfl := ret_hid H
  go_wp2_with fail
  go_ret
  exact ⟨rfl, HBwt_2.out⟩
end Go.Proofs.Ytihibckijdfidaa.GiIsPostOffice

namespace Go.Proofs.Ytihibckijdfidaa.GiIsMinute
open Go.RowKit
open Go.Proofs.Ytihibckijdfidaa.Rowed Go.Proofs.Ytihibckijdfidaa.Turn Go.Proofs.Ytihibckijdfidaa.Aid Go.Proofs.Ytihibckijdfidaa.GoP Go.Proofs.Ytihibckijdfidaa.GoM

def P (minute : Int) : Option (Bool) :=
  Option.bind (Go.Proofs.Ytihibckijdfidaa.GiWithin.P minute 0 9999) fun (t_2 : Bool) =>
  some t_2

set_option maxRecDepth 100000 in
set_option maxHeartbeats 2000000 in
theorem C (minute : Int)   (w : World)   {r : Bool} (H : Hid (P minute = some r)) :
    Calls Try.prog 177 #[.int .i64 minute] w (Gives (.bool r) w) := by
  have HB := Lib.hid (Below.refl w.heap.size w)
  unfold P at H
  go_enter Try.func177, Try.ntmps177
  replace H := bind_hid H
  obtain ⟨t_2, qt_2, H⟩ := H
  go_wp2_with fail
  go_at_call 119
  refine (Go.Proofs.Ytihibckijdfidaa.GiWithin.C (minute) (0) (9999)  _    qt_2).mono ?_
  rintro e_t_2 wt_2 ⟨rfl, bt_2⟩
  have HBwt_2 := Lib.hid (Below.step HB.out bt_2)
  clear bt_2
  obtain rfl := ret_hid H
  go_wp2_with fail
  go_ret
  exact ⟨rfl, HBwt_2.out⟩
end Go.Proofs.Ytihibckijdfidaa.GiIsMinute

namespace Go.Proofs.Ytihibckijdfidaa.GiIsCover
open Go.RowKit
open Go.Proofs.Ytihibckijdfidaa.Rowed Go.Proofs.Ytihibckijdfidaa.Turn Go.Proofs.Ytihibckijdfidaa.Aid Go.Proofs.Ytihibckijdfidaa.GoP Go.Proofs.Ytihibckijdfidaa.GoM

def P (x : PCover.Cover) : Option (Bool) :=
 unCover x fun (x_id : Int) (x_day : Int) (x_zone : Int) (x_grams : Int) (x_paid : Int) (x_from_ : Int) (x_to_ : Int) (x_leave : Int) (x_arrive : Int) =>
 Option.bind (GiWithin.P x_id 1 999) fun (t_4 : Bool) =>
 joinK (fun (t_9 : Bool) =>
 joinK (fun (t_14 : Bool) =>
 joinK (fun (t_19 : Bool) =>
 joinK (fun (t_24 : Bool) =>
 joinK (fun (t_29 : Bool) =>
 joinK (fun (t_34 : Bool) =>
 joinK (fun (t_41 : Bool) =>
 joinK (fun (t_46 : Bool) =>
 joinK (fun (t_51 : Bool) =>
 joinK (fun (t_58 : Bool) =>
 some t_58) fun jt_58 => iteK t_51 (letK (decide (x_leave ≤ x_arrive)) fun (t_57 : Bool) =>
 appK jt_58 t_57) (appK jt_58 false)) fun jt_51 => iteK t_46 (Option.bind (GiIsMinute.P x_arrive) fun (t_50 : Bool) =>
 appK jt_51 t_50) (appK jt_51 false)) fun jt_46 => iteK t_41 (Option.bind (GiIsMinute.P x_leave) fun (t_45 : Bool) =>
 appK jt_46 t_45) (appK jt_46 false)) fun jt_41 => iteK t_34 (letK (x_from_ != x_to_) fun (t_40 : Bool) =>
 appK jt_41 t_40) (appK jt_41 false)) fun jt_34 => iteK t_29 (Option.bind (GiIsPostOffice.P x_to_) fun (t_33 : Bool) =>
 appK jt_34 t_33) (appK jt_34 false)) fun jt_29 => iteK t_24 (Option.bind (GiIsPostOffice.P x_from_) fun (t_28 : Bool) =>
 appK jt_29 t_28) (appK jt_29 false)) fun jt_24 => iteK t_19 (Option.bind (GiIsRateCents.P x_paid) fun (t_23 : Bool) =>
 appK jt_24 t_23) (appK jt_24 false)) fun jt_19 => iteK t_14 (Option.bind (GiIsWeight.P x_grams) fun (t_18 : Bool) =>
 appK jt_19 t_18) (appK jt_19 false)) fun jt_14 => iteK t_9 (Option.bind (GiIsZone.P x_zone) fun (t_13 : Bool) =>
 appK jt_14 t_13) (appK jt_14 false)) fun jt_9 => iteK t_4 (Option.bind (GiIsDay.P x_day) fun (t_8 : Bool) =>
 appK jt_9 t_8) (appK jt_9 false)

set_option maxRecDepth 100000 in
set_option maxHeartbeats 2000000 in
theorem C (x : PCover.Cover)   (w : World)   {r : Bool} (H : Hid (P x = some r)) :
  Calls Try.prog 103 #[x.val] w (Gives (.bool r) w) := by
 have HB := Lib.hid (Below.refl w.heap.size w); unfold P at H; obtain ⟨x_id, x_day, x_zone, x_grams, x_paid, x_from_, x_to_, x_leave, x_arrive⟩ := x; replace H := unCover_hid H; unfold PCover.Cover.val
 go_enter Try.func103, Try.ntmps103
 obtain ⟨q10, r10⟩ : ∃ x, w.alloc (.cells #[.int .i64 x_id, .int .i64 x_day, .int .i64 x_zone, .int .i64 x_grams, .int .i64 x_paid, .int .i64 x_from_, .int .i64 x_to_, .int .i64 x_leave, .int .i64 x_arrive] 30) = x := ⟨_, rfl⟩; have x10 : Below w.heap.size w q10 := (by rw [← r10]; exact (Below.refl _ _).alloc (Nat.le_refl _) _); have i11 := Lib.hid (Below.step HB.out x10); clear x10; have d10 : q10.cell? ⟨w.heap.size, 0, none⟩ = some (.int .i64 x_id) := (by rw [← r10]; exact box_new _ _ _ 0 _ rfl); have a10 : q10.cell? ⟨w.heap.size, 1, none⟩ = some (.int .i64 x_day) := (by rw [← r10]; exact box_new _ _ _ 1 _ rfl); have i10 : q10.cell? ⟨w.heap.size, 2, none⟩ = some (.int .i64 x_zone) := (by rw [← r10]; exact box_new _ _ _ 2 _ rfl); have g10 : q10.cell? ⟨w.heap.size, 3, none⟩ = some (.int .i64 x_grams) := (by rw [← r10]; exact box_new _ _ _ 3 _ rfl); have b10 : q10.cell? ⟨w.heap.size, 4, none⟩ = some (.int .i64 x_paid) := (by rw [← r10]; exact box_new _ _ _ 4 _ rfl); have c10 : q10.cell? ⟨w.heap.size, 5, none⟩ = some (.int .i64 x_from_) := (by rw [← r10]; exact box_new _ _ _ 5 _ rfl); have e10 : q10.cell? ⟨w.heap.size, 6, none⟩ = some (.int .i64 x_to_) := (by rw [← r10]; exact box_new _ _ _ 6 _ rfl); have h10 : q10.cell? ⟨w.heap.size, 7, none⟩ = some (.int .i64 x_leave) := (by rw [← r10]; exact box_new _ _ _ 7 _ rfl); have f10 : q10.cell? ⟨w.heap.size, 8, none⟩ = some (.int .i64 x_arrive) := (by rw [← r10]; exact box_new _ _ _ 8 _ rfl); replace H := bind_hid H; obtain ⟨t_4, qt_4, H⟩ := H; go_wp2_with fail; go_at_call 119; refine (GiWithin.C (x_id) (1) (999)  _    qt_4).mono ?_; rintro n11 wt_4 ⟨rfl, bt_4⟩; have z10 := Lib.hid (Below.step i11.out bt_4); replace d10 := cell_below bt_4 d10; replace a10 := cell_below bt_4 a10; replace i10 := cell_below bt_4 i10; replace g10 := cell_below bt_4 g10; replace b10 := cell_below bt_4 b10; replace c10 := cell_below bt_4 c10; replace e10 := cell_below bt_4 e10; replace h10 := cell_below bt_4 h10; replace f10 := cell_below bt_4 f10; clear bt_4; replace H := join_hid H
 cases t_4 with
 | false =>
  replace H := ite_f H; replace H := app_hid H; replace H := join_hid H; replace H := ite_f H; replace H := app_hid H; replace H := join_hid H; replace H := ite_f H; replace H := app_hid H; replace H := join_hid H; replace H := ite_f H; replace H := app_hid H; replace H := join_hid H; replace H := ite_f H; replace H := app_hid H; replace H := join_hid H; replace H := ite_f H; replace H := app_hid H; replace H := join_hid H; replace H := ite_f H; replace H := app_hid H; replace H := join_hid H; replace H := ite_f H; replace H := app_hid H; replace H := join_hid H; replace H := ite_f H; replace H := app_hid H; replace H := join_hid H; replace H := ite_f H; replace H := app_hid H; obtain rfl := ret_hid H; go_wp2_with fail; go_ret; exact ⟨rfl, z10.out⟩
 | true =>
  replace H := ite_t H; replace H := bind_hid H; obtain ⟨t_8, qt_8, H⟩ := H; go_wp2_with fail; go_at_call 172; refine (GiIsDay.C (x_day)  _    qt_8).mono ?_; rintro b12 wt_8 ⟨rfl, bt_8⟩; have v10 := Lib.hid (Below.step z10.out bt_8); replace d10 := cell_below bt_8 d10; replace a10 := cell_below bt_8 a10; replace i10 := cell_below bt_8 i10; replace g10 := cell_below bt_8 g10; replace b10 := cell_below bt_8 b10; replace c10 := cell_below bt_8 c10; replace e10 := cell_below bt_8 e10; replace h10 := cell_below bt_8 h10; replace f10 := cell_below bt_8 f10; clear bt_8; replace H := app_hid H; replace H := join_hid H
  cases t_8 with
  | false =>
   replace H := ite_f H; replace H := app_hid H; replace H := join_hid H; replace H := ite_f H; replace H := app_hid H; replace H := join_hid H; replace H := ite_f H; replace H := app_hid H; replace H := join_hid H; replace H := ite_f H; replace H := app_hid H; replace H := join_hid H; replace H := ite_f H; replace H := app_hid H; replace H := join_hid H; replace H := ite_f H; replace H := app_hid H; replace H := join_hid H; replace H := ite_f H; replace H := app_hid H; replace H := join_hid H; replace H := ite_f H; replace H := app_hid H; replace H := join_hid H; replace H := ite_f H; replace H := app_hid H; obtain rfl := ret_hid H; go_wp2_with fail; go_ret; exact ⟨rfl, v10.out⟩
  | true =>
   replace H := ite_t H; replace H := bind_hid H; obtain ⟨t_13, g11, H⟩ := H; go_wp2_with fail; go_at_call 173; refine (GiIsZone.C (x_zone)  _    g11).mono ?_; rintro v11 z11 ⟨rfl, k10⟩; have c11 := Lib.hid (Below.step v10.out k10); replace d10 := cell_below k10 d10; replace a10 := cell_below k10 a10; replace i10 := cell_below k10 i10; replace g10 := cell_below k10 g10; replace b10 := cell_below k10 b10; replace c10 := cell_below k10 c10; replace e10 := cell_below k10 e10; replace h10 := cell_below k10 h10; replace f10 := cell_below k10 f10; clear k10; replace H := app_hid H; replace H := join_hid H
   cases t_13 with
   | false =>
    replace H := ite_f H; replace H := app_hid H; replace H := join_hid H; replace H := ite_f H; replace H := app_hid H; replace H := join_hid H; replace H := ite_f H; replace H := app_hid H; replace H := join_hid H; replace H := ite_f H; replace H := app_hid H; replace H := join_hid H; replace H := ite_f H; replace H := app_hid H; replace H := join_hid H; replace H := ite_f H; replace H := app_hid H; replace H := join_hid H; replace H := ite_f H; replace H := app_hid H; replace H := join_hid H; replace H := ite_f H; replace H := app_hid H; obtain rfl := ret_hid H; go_wp2_with fail; go_ret; exact ⟨rfl, c11.out⟩
   | true =>
    replace H := ite_t H; replace H := bind_hid H; obtain ⟨t_18, k11, H⟩ := H; go_wp2_with fail; go_at_call 174; refine (GiIsWeight.C (x_grams)  _    k11).mono ?_; rintro d12 o11 ⟨rfl, n10⟩; have b11 := Lib.hid (Below.step c11.out n10); replace d10 := cell_below n10 d10; replace a10 := cell_below n10 a10; replace i10 := cell_below n10 i10; replace g10 := cell_below n10 g10; replace b10 := cell_below n10 b10; replace c10 := cell_below n10 c10; replace e10 := cell_below n10 e10; replace h10 := cell_below n10 h10; replace f10 := cell_below n10 f10; clear n10; replace H := app_hid H; replace H := join_hid H
    cases t_18 with
    | false =>
     replace H := ite_f H; replace H := app_hid H; replace H := join_hid H; replace H := ite_f H; replace H := app_hid H; replace H := join_hid H; replace H := ite_f H; replace H := app_hid H; replace H := join_hid H; replace H := ite_f H; replace H := app_hid H; replace H := join_hid H; replace H := ite_f H; replace H := app_hid H; replace H := join_hid H; replace H := ite_f H; replace H := app_hid H; replace H := join_hid H; replace H := ite_f H; replace H := app_hid H; obtain rfl := ret_hid H; go_wp2_with fail; go_ret; exact ⟨rfl, b11.out⟩
    | true =>
     replace H := ite_t H; replace H := bind_hid H; obtain ⟨t_23, e11, H⟩ := H; go_wp2_with fail; go_at_call 175; refine (GiIsRateCents.C (x_paid)  _    e11).mono ?_; rintro x11 s11 ⟨rfl, l10⟩; have w10 := Lib.hid (Below.step b11.out l10); replace d10 := cell_below l10 d10; replace a10 := cell_below l10 a10; replace i10 := cell_below l10 i10; replace g10 := cell_below l10 g10; replace b10 := cell_below l10 b10; replace c10 := cell_below l10 c10; replace e10 := cell_below l10 e10; replace h10 := cell_below l10 h10; replace f10 := cell_below l10 f10; clear l10; replace H := app_hid H; replace H := join_hid H
     cases t_23 with
     | false =>
      replace H := ite_f H; replace H := app_hid H; replace H := join_hid H; replace H := ite_f H; replace H := app_hid H; replace H := join_hid H; replace H := ite_f H; replace H := app_hid H; replace H := join_hid H; replace H := ite_f H; replace H := app_hid H; replace H := join_hid H; replace H := ite_f H; replace H := app_hid H; replace H := join_hid H; replace H := ite_f H; replace H := app_hid H; obtain rfl := ret_hid H; go_wp2_with fail; go_ret; exact ⟨rfl, w10.out⟩
     | true =>
      replace H := ite_t H; replace H := bind_hid H; obtain ⟨t_28, d11, H⟩ := H; go_wp2_with fail; go_at_call 176; refine (GiIsPostOffice.C (x_from_)  _    d11).mono ?_; rintro m11 a12 ⟨rfl, m10⟩; have t10 := Lib.hid (Below.step w10.out m10); replace d10 := cell_below m10 d10; replace a10 := cell_below m10 a10; replace i10 := cell_below m10 i10; replace g10 := cell_below m10 g10; replace b10 := cell_below m10 b10; replace c10 := cell_below m10 c10; replace e10 := cell_below m10 e10; replace h10 := cell_below m10 h10; replace f10 := cell_below m10 f10; clear m10; replace H := app_hid H; replace H := join_hid H
      cases t_28 with
      | false =>
       replace H := ite_f H; replace H := app_hid H; replace H := join_hid H; replace H := ite_f H; replace H := app_hid H; replace H := join_hid H; replace H := ite_f H; replace H := app_hid H; replace H := join_hid H; replace H := ite_f H; replace H := app_hid H; replace H := join_hid H; replace H := ite_f H; replace H := app_hid H; obtain rfl := ret_hid H; go_wp2_with fail; go_ret; exact ⟨rfl, t10.out⟩
      | true =>
       replace H := ite_t H; replace H := bind_hid H; obtain ⟨t_33, j11, H⟩ := H; go_wp2_with fail; go_at_call 176; refine (GiIsPostOffice.C (x_to_)  _    j11).mono ?_; rintro c12 q11 ⟨rfl, p10⟩; have s10 := Lib.hid (Below.step t10.out p10); replace d10 := cell_below p10 d10; replace a10 := cell_below p10 a10; replace i10 := cell_below p10 i10; replace g10 := cell_below p10 g10; replace b10 := cell_below p10 b10; replace c10 := cell_below p10 c10; replace e10 := cell_below p10 e10; replace h10 := cell_below p10 h10; replace f10 := cell_below p10 f10; clear p10; replace H := app_hid H; replace H := join_hid H
       cases t_33 with
       | false =>
        replace H := ite_f H; replace H := app_hid H; replace H := join_hid H; replace H := ite_f H; replace H := app_hid H; replace H := join_hid H; replace H := ite_f H; replace H := app_hid H; replace H := join_hid H; replace H := ite_f H; replace H := app_hid H; obtain rfl := ret_hid H; go_wp2_with fail; go_ret; exact ⟨rfl, s10.out⟩
       | true =>
        replace H := ite_t H; replace H := let_hid H; obtain ⟨t_40, p11, H⟩ := H; replace H := app_hid H; replace H := join_hid H
        cases t_40 with
        | false =>
         replace H := ite_f H; replace H := app_hid H; replace H := join_hid H; replace H := ite_f H; replace H := app_hid H; replace H := join_hid H; replace H := ite_f H; replace H := app_hid H; obtain rfl := ret_hid H; go_wp2_with fail; go_ret; exact ⟨rfl, s10.out⟩
        | true =>
         replace H := ite_t H; replace H := bind_hid H; obtain ⟨t_45, h11, H⟩ := H; go_wp2_with fail; go_at_call 177; refine (GiIsMinute.C (x_leave)  _    h11).mono ?_; rintro l11 w11 ⟨rfl, o10⟩; have a11 := Lib.hid (Below.step s10.out o10); replace d10 := cell_below o10 d10; replace a10 := cell_below o10 a10; replace i10 := cell_below o10 i10; replace g10 := cell_below o10 g10; replace b10 := cell_below o10 b10; replace c10 := cell_below o10 c10; replace e10 := cell_below o10 e10; replace h10 := cell_below o10 h10; replace f10 := cell_below o10 f10; clear o10; replace H := app_hid H; replace H := join_hid H
         cases t_45 with
         | false =>
          replace H := ite_f H; replace H := app_hid H; replace H := join_hid H; replace H := ite_f H; replace H := app_hid H; obtain rfl := ret_hid H; go_wp2_with fail; go_ret; exact ⟨rfl, a11.out⟩
         | true =>
          replace H := ite_t H; replace H := bind_hid H; obtain ⟨t_50, f11, H⟩ := H; go_wp2_with fail; go_at_call 177; refine (GiIsMinute.C (x_arrive)  _    f11).mono ?_; rintro r11 y11 ⟨rfl, j10⟩; have y10 := Lib.hid (Below.step a11.out j10); replace d10 := cell_below j10 d10; replace a10 := cell_below j10 a10; replace i10 := cell_below j10 i10; replace g10 := cell_below j10 g10; replace b10 := cell_below j10 b10; replace c10 := cell_below j10 c10; replace e10 := cell_below j10 e10; replace h10 := cell_below j10 h10; replace f10 := cell_below j10 f10; clear j10; replace H := app_hid H; replace H := join_hid H
          cases t_50 with
          | false =>
           replace H := ite_f H; replace H := app_hid H; obtain rfl := ret_hid H; go_wp2_with fail; go_ret; exact ⟨rfl, y10.out⟩
          | true =>
           replace H := ite_t H; replace H := let_hid H; obtain ⟨t_57, t11, H⟩ := H; replace H := app_hid H; obtain rfl := ret_hid H; go_wp2_with fail; go_ret; exact ⟨rfl, y10.out⟩
end Go.Proofs.Ytihibckijdfidaa.GiIsCover

namespace Go.Proofs.Ytihibckijdfidaa.GiCanExplain
open Go.RowKit
open Go.Proofs.Ytihibckijdfidaa.Rowed Go.Proofs.Ytihibckijdfidaa.Turn Go.Proofs.Ytihibckijdfidaa.Aid Go.Proofs.Ytihibckijdfidaa.GoP Go.Proofs.Ytihibckijdfidaa.GoM

def P (rates : (List PRate.Rate)) (x : PCover.Cover) : Option (Bool) :=
 unCover x fun (x_id : Int) (x_day : Int) (x_zone : Int) (x_grams : Int) (x_paid : Int) (x_from_ : Int) (x_to_ : Int) (x_leave : Int) (x_arrive : Int) =>
 Option.bind (GiAreRates.P rates) fun (t_3 : Bool) =>
 joinK (fun (t_7 : Bool) =>
 some t_7) fun jt_7 => iteK t_3 (Option.bind (GiIsCover.P (PCover.Cover.mk x_id x_day x_zone x_grams x_paid x_from_ x_to_ x_leave x_arrive)) fun (t_6 : Bool) =>
 appK jt_7 t_6) (appK jt_7 false)

set_option maxRecDepth 100000 in
set_option maxHeartbeats 2000000 in
theorem C (rates : (List PRate.Rate)) (x : PCover.Cover) (A0 : Option Addr) (c0 : Nat)  (w : World) (M0 : Hid (Cells w 5 A0 rates.length (PRate.flat rates))) (N0 : Hid (rates.length ≤ 9223372036854775807))  {r : Bool} (H : Hid (P rates x = some r)) :
  Calls Try.prog 84 #[.slice A0 rates.length c0, x.val] w (Gives (.bool r) w) := by
 have HB := Lib.hid (Below.refl w.heap.size w); unfold P at H; obtain ⟨x_id, x_day, x_zone, x_grams, x_paid, x_from_, x_to_, x_leave, x_arrive⟩ := x; replace H := unCover_hid H; unfold PCover.Cover.val; have N0o := N0.out
 go_enter Try.func84, Try.ntmps84
 obtain ⟨b10, a10⟩ : ∃ x, w.alloc (.cells #[.int .i64 x_id, .int .i64 x_day, .int .i64 x_zone, .int .i64 x_grams, .int .i64 x_paid, .int .i64 x_from_, .int .i64 x_to_, .int .i64 x_leave, .int .i64 x_arrive] 30) = x := ⟨_, rfl⟩; have m10 : Below w.heap.size w b10 := (by rw [← a10]; exact (Below.refl _ _).alloc (Nat.le_refl _) _); have n10 := Lib.hid (Below.step HB.out m10); clear m10; have c10 : b10.cell? ⟨w.heap.size, 0, none⟩ = some (.int .i64 x_id) := (by rw [← a10]; exact box_new _ _ _ 0 _ rfl); have i10 : b10.cell? ⟨w.heap.size, 1, none⟩ = some (.int .i64 x_day) := (by rw [← a10]; exact box_new _ _ _ 1 _ rfl); have d10 : b10.cell? ⟨w.heap.size, 2, none⟩ = some (.int .i64 x_zone) := (by rw [← a10]; exact box_new _ _ _ 2 _ rfl); have h10 : b10.cell? ⟨w.heap.size, 3, none⟩ = some (.int .i64 x_grams) := (by rw [← a10]; exact box_new _ _ _ 3 _ rfl); have e10 : b10.cell? ⟨w.heap.size, 4, none⟩ = some (.int .i64 x_paid) := (by rw [← a10]; exact box_new _ _ _ 4 _ rfl); have g10 : b10.cell? ⟨w.heap.size, 5, none⟩ = some (.int .i64 x_from_) := (by rw [← a10]; exact box_new _ _ _ 5 _ rfl); have j10 : b10.cell? ⟨w.heap.size, 6, none⟩ = some (.int .i64 x_to_) := (by rw [← a10]; exact box_new _ _ _ 6 _ rfl); have k10 : b10.cell? ⟨w.heap.size, 7, none⟩ = some (.int .i64 x_leave) := (by rw [← a10]; exact box_new _ _ _ 7 _ rfl); have f10 : b10.cell? ⟨w.heap.size, 8, none⟩ = some (.int .i64 x_arrive) := (by rw [← a10]; exact box_new _ _ _ 8 _ rfl); replace H := bind_hid H; obtain ⟨t_3, qt_3, H⟩ := H; go_wp2_with fail; go_at_call 160; refine (GiAreRates.C (rates) A0 c0 _   (Lib.hid (Cells.below M0.out n10.out)) N0 qt_3).mono ?_; rintro p10 wt_3 ⟨rfl, bt_3⟩; have l10 := Lib.hid (Below.step n10.out bt_3); replace c10 := cell_below bt_3 c10; replace i10 := cell_below bt_3 i10; replace d10 := cell_below bt_3 d10; replace h10 := cell_below bt_3 h10; replace e10 := cell_below bt_3 e10; replace g10 := cell_below bt_3 g10; replace j10 := cell_below bt_3 j10; replace k10 := cell_below bt_3 k10; replace f10 := cell_below bt_3 f10; clear bt_3; replace H := join_hid H
 cases t_3 with
 | false =>
  replace H := ite_f H; replace H := app_hid H; obtain rfl := ret_hid H; go_wp2_with fail; go_ret; exact ⟨rfl, l10.out⟩
 | true =>
  replace H := ite_t H; replace H := bind_hid H; obtain ⟨t_6, qt_6, H⟩ := H; go_wp2_with fail; go_at_call 103; refine (GiIsCover.C ((PCover.Cover.mk x_id x_day x_zone x_grams x_paid x_from_ x_to_ x_leave x_arrive))  _    qt_6).mono ?_; rintro q10 wt_6 ⟨rfl, bt_6⟩; have o10 := Lib.hid (Below.step l10.out bt_6); replace c10 := cell_below bt_6 c10; replace i10 := cell_below bt_6 i10; replace d10 := cell_below bt_6 d10; replace h10 := cell_below bt_6 h10; replace e10 := cell_below bt_6 e10; replace g10 := cell_below bt_6 g10; replace j10 := cell_below bt_6 j10; replace k10 := cell_below bt_6 k10; replace f10 := cell_below bt_6 f10; clear bt_6; replace H := app_hid H; obtain rfl := ret_hid H; go_wp2_with fail; go_ret; exact ⟨rfl, o10.out⟩
end Go.Proofs.Ytihibckijdfidaa.GiCanExplain

namespace Go.Proofs.Ytihibckijdfidaa.GiRateOn
open Go.RowKit
open Go.Proofs.Ytihibckijdfidaa.Rowed Go.Proofs.Ytihibckijdfidaa.Turn Go.Proofs.Ytihibckijdfidaa.Aid Go.Proofs.Ytihibckijdfidaa.GoP Go.Proofs.Ytihibckijdfidaa.GoM

def l0 (list : (List PRate.Rate)) (day : Int) (zone : Int) (grams : Int) (k0 : Nat) (s : Unit) (nx0 bk0 : Unit → Option (Int)) : Option (Int) :=
 
 Option.bind (idx list (k0 : Int)) fun (yt_5 : PRate.Rate) =>
 unRate yt_5 fun (t_5_zone : Int) (t_5_grams : Int) (t_5_from_ : Int) (t_5_until_ : Int) (t_5_cents : Int) =>
 letK (t_5_zone == zone) fun (t_12 : Bool) =>
 joinK (fun (t_18 : Bool) =>
 joinK (fun (t_26 : Bool) =>
 iteK t_26
 (some t_5_cents)
 (appK nx0 ())) fun jt_26 => iteK t_18 (Option.bind (GiWithin.P day t_5_from_ t_5_until_) fun (t_25 : Bool) =>
 appK jt_26 t_25) (appK jt_26 false)) fun jt_18 => iteK t_12 (letK (decide (grams ≤ t_5_grams)) fun (t_17 : Bool) =>
 appK jt_18 t_17) (appK jt_18 false)

def e0  (s : Unit) : Option (Int) :=
 
 some 0

def P (list : (List PRate.Rate)) (day : Int) (zone : Int) (grams : Int) : Option (Int) :=
 cntK (l0 list day zone grams) (list.length) 0 () (e0 )

set_option maxRecDepth 100000 in
set_option maxHeartbeats 2000000 in
theorem C (list : (List PRate.Rate)) (day : Int) (zone : Int) (grams : Int) (A0 : Option Addr) (c0 : Nat)  (w : World) (M0 : Hid (Cells w 5 A0 list.length (PRate.flat list))) (N0 : Hid (list.length ≤ 9223372036854775807))  {r : Int} (H : Hid (P list day zone grams = some r)) :
  Calls Try.prog 161 #[.slice A0 list.length c0, .int .i64 day, .int .i64 zone, .int .i64 grams] w (Gives (.int .i64 r) w) := by
 have HB := Lib.hid (Below.refl w.heap.size w); unfold P at H; have N0o := N0.out
 go_enter Try.func161, Try.ntmps161
 go_wp2_with fail; go_loopg [13] (list.length) (fun m_ v13_ wr => ∃ (k0 : Nat) , k0 + m_ = list.length ∧ v13_ = .int .i64 (k0 : Int) ∧ Hid (cntK (l0 list day zone grams) m_ k0 () (e0 ) = some r) ∧ Hid (Below w.heap.size w wr))
 case atStart => exact ⟨0, by omega, rfl, H, HB⟩
 case round =>
  obtain ⟨k0, hkm0, rfl, H, d10⟩ := hrel; rename World => wr0
  cases gk with
  | zero =>
   obtain rfl : k0 = list.length := (by omega); have hc0 : decide (((list.length : Nat) : Int) < ((list.length : Nat) : Int)) = false := (by simp); replace H := cnt_zero H; unfold e0 at H; obtain rfl := ret_hid H; go_wp2_with fail; go_ret; exact ⟨rfl, d10.out⟩
  | succ m0 =>
   have hlt0 : k0 < list.length := (by omega); have hc0 : decide ((k0 : Int) < ((list.length : Nat) : Int)) = true := (by simp; omega); replace H := cnt_succ H; unfold l0 at H; replace H := idx_hid H; obtain ⟨nt_5, yt_5, et_5, lt_5, gt_5, H⟩ := H; obtain rfl : k0 = nt_5 := (by omega); clear et_5; obtain ⟨v10, b11, l10, m10, q10⟩ := yt_5; replace H := unRate_hid H; obtain ⟨e11, l11, zt_5, At_5, y10, b10, h10, e10, g10, j10⟩ := ORate.at_ M0.out lt_5; obtain rfl := Option.some.inj (gt_5.out.symm.trans y10); subst At_5; have f11 := cell_lt b10; replace b10 := cell_below d10.out b10; replace h10 := cell_below d10.out h10; replace e10 := cell_below d10.out e10; replace g10 := cell_below d10.out g10; replace j10 := cell_below d10.out j10; clear y10; have i11 : (0 : Int) ≤ (k0 : Int) := (by omega); have j11 : (k0 : Int) < ((list.length : Nat) : Int) := (by omega); have n11 : ((k0 : Int)).toNat = k0 := (by omega); obtain ⟨f10, i10⟩ : ∃ x, wr0.alloc (.cells #[.int .i64 v10, .int .i64 b11, .int .i64 l10, .int .i64 m10, .int .i64 q10] 120) = x := ⟨_, rfl⟩; have c10 : Below wr0.heap.size wr0 f10 := (by rw [← i10]; exact (Below.refl _ _).alloc (Nat.le_refl _) _); have k10 := Lib.hid (Below.step d10.out c10); have t10 := cell_below c10 b10; have s10 := cell_below c10 h10; have w10 := cell_below c10 e10; have x10 := cell_below c10 g10; have p10 := cell_below c10 j10; clear c10; have o10 : f10.cell? ⟨wr0.heap.size, 0, none⟩ = some (.int .i64 v10) := (by rw [← i10]; exact box_new _ _ _ 0 _ rfl); have n10 : f10.cell? ⟨wr0.heap.size, 1, none⟩ = some (.int .i64 b11) := (by rw [← i10]; exact box_new _ _ _ 1 _ rfl); have c11 : f10.cell? ⟨wr0.heap.size, 2, none⟩ = some (.int .i64 l10) := (by rw [← i10]; exact box_new _ _ _ 2 _ rfl); have z10 : f10.cell? ⟨wr0.heap.size, 3, none⟩ = some (.int .i64 m10) := (by rw [← i10]; exact box_new _ _ _ 3 _ rfl); have a11 : f10.cell? ⟨wr0.heap.size, 4, none⟩ = some (.int .i64 q10) := (by rw [← i10]; exact box_new _ _ _ 4 _ rfl); replace H := let_hid H; obtain ⟨t_12, g11, H⟩ := H; replace H := join_hid H
   cases t_12 with
   | false =>
    replace H := ite_f H; replace H := app_hid H; replace H := join_hid H; replace H := ite_f H; replace H := app_hid H; replace H := ite_f H; replace H := app_hid H; go_wp2_with fail; clear b10 h10 e10 g10 j10
    go_roundg m0
    case measure => omega
    case rel => exact ⟨k0 + 1, by omega, by go_num, H, k10⟩
   | true =>
    replace H := ite_t H; replace H := let_hid H; obtain ⟨t_17, k11, H⟩ := H; replace H := app_hid H; replace H := join_hid H
    cases t_17 with
    | false =>
     replace H := ite_f H; replace H := app_hid H; replace H := ite_f H; replace H := app_hid H; go_wp2_with fail; clear b10 h10 e10 g10 j10
     go_roundg m0
     case measure => omega
     case rel => exact ⟨k0 + 1, by omega, by go_num, H, k10⟩
    | true =>
     replace H := ite_t H; replace H := bind_hid H; obtain ⟨t_25, d11, H⟩ := H; go_wp2_with fail; clear b10 h10 e10 g10 j10; go_at_call 119; refine (GiWithin.C (day) (l10) (m10)  _    d11).mono ?_; rintro h11 m11 ⟨rfl, a10⟩; have r10 := Lib.hid (Below.step k10.out a10); replace t10 := cell_below a10 t10; replace s10 := cell_below a10 s10; replace w10 := cell_below a10 w10; replace x10 := cell_below a10 x10; replace p10 := cell_below a10 p10; replace o10 := cell_below a10 o10; replace n10 := cell_below a10 n10; replace c11 := cell_below a10 c11; replace z10 := cell_below a10 z10; replace a11 := cell_below a10 a11; clear a10; replace H := app_hid H
     cases t_25 with
     | false =>
      replace H := ite_f H; replace H := app_hid H; go_wp2_with fail
      go_roundg m0
      case measure => omega
      case rel => exact ⟨k0 + 1, by omega, by go_num, H, r10⟩
     | true =>
      replace H := ite_t H; obtain rfl := ret_hid H; go_wp2_with fail; go_ret; exact ⟨rfl, r10.out⟩
end Go.Proofs.Ytihibckijdfidaa.GiRateOn

namespace Go.Proofs.Ytihibckijdfidaa.GiRateOfCover
open Go.RowKit
open Go.Proofs.Ytihibckijdfidaa.Rowed Go.Proofs.Ytihibckijdfidaa.Turn Go.Proofs.Ytihibckijdfidaa.Aid Go.Proofs.Ytihibckijdfidaa.GoP Go.Proofs.Ytihibckijdfidaa.GoM

def P (rates : (List PRate.Rate)) (x : PCover.Cover) : Option (Int) :=
 unCover x fun (x_id : Int) (x_day : Int) (x_zone : Int) (x_grams : Int) (x_paid : Int) (x_from_ : Int) (x_to_ : Int) (x_leave : Int) (x_arrive : Int) =>
 Option.bind (GiRateOn.P rates x_day x_zone x_grams) fun (t_9 : Int) =>
 some t_9

set_option maxRecDepth 100000 in
set_option maxHeartbeats 2000000 in
theorem C (rates : (List PRate.Rate)) (x : PCover.Cover) (A0 : Option Addr) (c0 : Nat)  (w : World) (M0 : Hid (Cells w 5 A0 rates.length (PRate.flat rates))) (N0 : Hid (rates.length ≤ 9223372036854775807))  {r : Int} (H : Hid (P rates x = some r)) :
  Calls Try.prog 85 #[.slice A0 rates.length c0, x.val] w (Gives (.int .i64 r) w) := by
 have HB := Lib.hid (Below.refl w.heap.size w); unfold P at H; obtain ⟨x_id, x_day, x_zone, x_grams, x_paid, x_from_, x_to_, x_leave, x_arrive⟩ := x; replace H := unCover_hid H; unfold PCover.Cover.val; have N0o := N0.out
 go_enter Try.func85, Try.ntmps85
 obtain ⟨b10, a10⟩ : ∃ x, w.alloc (.cells #[.int .i64 x_id, .int .i64 x_day, .int .i64 x_zone, .int .i64 x_grams, .int .i64 x_paid, .int .i64 x_from_, .int .i64 x_to_, .int .i64 x_leave, .int .i64 x_arrive] 30) = x := ⟨_, rfl⟩; have k10 : Below w.heap.size w b10 := (by rw [← a10]; exact (Below.refl _ _).alloc (Nat.le_refl _) _); have g10 := Lib.hid (Below.step HB.out k10); clear k10; have m10 : b10.cell? ⟨w.heap.size, 0, none⟩ = some (.int .i64 x_id) := (by rw [← a10]; exact box_new _ _ _ 0 _ rfl); have h10 : b10.cell? ⟨w.heap.size, 1, none⟩ = some (.int .i64 x_day) := (by rw [← a10]; exact box_new _ _ _ 1 _ rfl); have l10 : b10.cell? ⟨w.heap.size, 2, none⟩ = some (.int .i64 x_zone) := (by rw [← a10]; exact box_new _ _ _ 2 _ rfl); have j10 : b10.cell? ⟨w.heap.size, 3, none⟩ = some (.int .i64 x_grams) := (by rw [← a10]; exact box_new _ _ _ 3 _ rfl); have f10 : b10.cell? ⟨w.heap.size, 4, none⟩ = some (.int .i64 x_paid) := (by rw [← a10]; exact box_new _ _ _ 4 _ rfl); have d10 : b10.cell? ⟨w.heap.size, 5, none⟩ = some (.int .i64 x_from_) := (by rw [← a10]; exact box_new _ _ _ 5 _ rfl); have i10 : b10.cell? ⟨w.heap.size, 6, none⟩ = some (.int .i64 x_to_) := (by rw [← a10]; exact box_new _ _ _ 6 _ rfl); have c10 : b10.cell? ⟨w.heap.size, 7, none⟩ = some (.int .i64 x_leave) := (by rw [← a10]; exact box_new _ _ _ 7 _ rfl); have e10 : b10.cell? ⟨w.heap.size, 8, none⟩ = some (.int .i64 x_arrive) := (by rw [← a10]; exact box_new _ _ _ 8 _ rfl); replace H := bind_hid H; obtain ⟨t_9, qt_9, H⟩ := H; go_wp2_with fail; go_at_call 161; refine (GiRateOn.C (rates) (x_day) (x_zone) (x_grams) A0 c0 _   (Lib.hid (Cells.below M0.out g10.out)) N0 qt_9).mono ?_; rintro o10 wt_9 ⟨rfl, bt_9⟩; have n10 := Lib.hid (Below.step g10.out bt_9); replace m10 := cell_below bt_9 m10; replace h10 := cell_below bt_9 h10; replace l10 := cell_below bt_9 l10; replace j10 := cell_below bt_9 j10; replace f10 := cell_below bt_9 f10; replace d10 := cell_below bt_9 d10; replace i10 := cell_below bt_9 i10; replace c10 := cell_below bt_9 c10; replace e10 := cell_below bt_9 e10; clear bt_9; obtain rfl := ret_hid H; go_wp2_with fail; go_ret; exact ⟨rfl, n10.out⟩
end Go.Proofs.Ytihibckijdfidaa.GiRateOfCover

namespace Go.Proofs.Ytihibckijdfidaa.GiIsExplained
open Go.RowKit
open Go.Proofs.Ytihibckijdfidaa.Rowed Go.Proofs.Ytihibckijdfidaa.Turn Go.Proofs.Ytihibckijdfidaa.Aid Go.Proofs.Ytihibckijdfidaa.GoP Go.Proofs.Ytihibckijdfidaa.GoM

def P (rates : (List PRate.Rate)) (x : PCover.Cover) : Option (Bool × Bool) :=
 unCover x fun (x_id : Int) (x_day : Int) (x_zone : Int) (x_grams : Int) (x_paid : Int) (x_from_ : Int) (x_to_ : Int) (x_leave : Int) (x_arrive : Int) =>
 Option.bind (GiCanExplain.P rates (PCover.Cover.mk x_id x_day x_zone x_grams x_paid x_from_ x_to_ x_leave x_arrive)) fun (t_5 : Bool) =>
 letK (!t_5) fun (t_6 : Bool) =>
 iteK t_6
 (some (false, false))
 (Option.bind (GiRateOfCover.P rates (PCover.Cover.mk x_id x_day x_zone x_grams x_paid x_from_ x_to_ x_leave x_arrive)) fun (t_13 : Int) =>
 letK (x_paid == t_13) fun (t_14 : Bool) =>
 some (t_14, true))

set_option maxRecDepth 100000 in
set_option maxHeartbeats 2000000 in
theorem C (rates : (List PRate.Rate)) (x : PCover.Cover) (A0 : Option Addr) (c0 : Nat)  (w : World) (M0 : Hid (Cells w 5 A0 rates.length (PRate.flat rates))) (N0 : Hid (rates.length ≤ 9223372036854775807))  {r0 : Bool} {r1 : Bool} (H : Hid (P rates x = some (r0, r1))) :
  Calls Try.prog 19 #[.slice A0 rates.length c0, x.val] w (Gives (.tuple #[.bool r0, .bool r1]) w) := by
 have HB := Lib.hid (Below.refl w.heap.size w); unfold P at H; obtain ⟨x_id, x_day, x_zone, x_grams, x_paid, x_from_, x_to_, x_leave, x_arrive⟩ := x; replace H := unCover_hid H; unfold PCover.Cover.val; have N0o := N0.out
 go_enter Try.func19, Try.ntmps19
 obtain ⟨a10, b10⟩ : ∃ x, w.alloc (.cells #[.int .i64 x_id, .int .i64 x_day, .int .i64 x_zone, .int .i64 x_grams, .int .i64 x_paid, .int .i64 x_from_, .int .i64 x_to_, .int .i64 x_leave, .int .i64 x_arrive] 30) = x := ⟨_, rfl⟩; have w10 : Below w.heap.size w a10 := (by rw [← b10]; exact (Below.refl _ _).alloc (Nat.le_refl _) _); have v10 := Lib.hid (Below.step HB.out w10); clear w10; have c10 : a10.cell? ⟨w.heap.size, 0, none⟩ = some (.int .i64 x_id) := (by rw [← b10]; exact box_new _ _ _ 0 _ rfl); have i10 : a10.cell? ⟨w.heap.size, 1, none⟩ = some (.int .i64 x_day) := (by rw [← b10]; exact box_new _ _ _ 1 _ rfl); have g10 : a10.cell? ⟨w.heap.size, 2, none⟩ = some (.int .i64 x_zone) := (by rw [← b10]; exact box_new _ _ _ 2 _ rfl); have k10 : a10.cell? ⟨w.heap.size, 3, none⟩ = some (.int .i64 x_grams) := (by rw [← b10]; exact box_new _ _ _ 3 _ rfl); have d10 : a10.cell? ⟨w.heap.size, 4, none⟩ = some (.int .i64 x_paid) := (by rw [← b10]; exact box_new _ _ _ 4 _ rfl); have e10 : a10.cell? ⟨w.heap.size, 5, none⟩ = some (.int .i64 x_from_) := (by rw [← b10]; exact box_new _ _ _ 5 _ rfl); have f10 : a10.cell? ⟨w.heap.size, 6, none⟩ = some (.int .i64 x_to_) := (by rw [← b10]; exact box_new _ _ _ 6 _ rfl); have j10 : a10.cell? ⟨w.heap.size, 7, none⟩ = some (.int .i64 x_leave) := (by rw [← b10]; exact box_new _ _ _ 7 _ rfl); have h10 : a10.cell? ⟨w.heap.size, 8, none⟩ = some (.int .i64 x_arrive) := (by rw [← b10]; exact box_new _ _ _ 8 _ rfl); replace H := bind_hid H; obtain ⟨t_5, qt_5, H⟩ := H; go_wp2_with fail; go_at_call 84; refine (GiCanExplain.C (rates) ((PCover.Cover.mk x_id x_day x_zone x_grams x_paid x_from_ x_to_ x_leave x_arrive)) A0 c0 _   (Lib.hid (Cells.below M0.out v10.out)) N0 qt_5).mono ?_; rintro a11 wt_5 ⟨rfl, bt_5⟩; have l10 := Lib.hid (Below.step v10.out bt_5); replace c10 := cell_below bt_5 c10; replace i10 := cell_below bt_5 i10; replace g10 := cell_below bt_5 g10; replace k10 := cell_below bt_5 k10; replace d10 := cell_below bt_5 d10; replace e10 := cell_below bt_5 e10; replace f10 := cell_below bt_5 f10; replace j10 := cell_below bt_5 j10; replace h10 := cell_below bt_5 h10; clear bt_5
 cases t_5 with
 | false =>
  replace H := let_hid H; obtain ⟨t_6, ht_6, H⟩ := H; obtain rfl : t_6 = true := ht_6.symm; replace H := ite_t H; cases ret_hid H; go_wp2_with fail; go_ret2; exact ⟨rfl, l10.out⟩
 | true =>
  replace H := let_hid H; obtain ⟨t_6, ht_6, H⟩ := H; obtain rfl : t_6 = false := ht_6.symm; replace H := ite_f H; go_wp2_with fail; have r10 := Lib.hid c10; replace c10 := cell_regrown c10; have y10 := Lib.hid i10; replace i10 := cell_regrown i10; have q10 := Lib.hid g10; replace g10 := cell_regrown g10; have t10 := Lib.hid k10; replace k10 := cell_regrown k10; have m10 := Lib.hid d10; replace d10 := cell_regrown d10; have s10 := Lib.hid e10; replace e10 := cell_regrown e10; have x10 := Lib.hid f10; replace f10 := cell_regrown f10; have n10 := Lib.hid j10; replace j10 := cell_regrown j10; have o10 := Lib.hid h10; replace h10 := cell_regrown h10; replace H := bind_hid H; obtain ⟨t_13, z10, H⟩ := H; have p10 : ∀ d os, Calls Try.prog 85 #[.slice A0 rates.length c0, .agg #[.int .i64 x_id, .int .i64 x_day, .int .i64 x_zone, .int .i64 x_grams, .int .i64 x_paid, .int .i64 x_from_, .int .i64 x_to_, .int .i64 x_leave, .int .i64 x_arrive]] (Go.Sort.grow (redrawn wt_5 d) os) fun e w'' => e = .returned (.int .i64 t_13) ∧ ∃ p : Regrown, w'' = Go.Sort.grow (redrawn wt_5 p.d) p.os := fun d os => Calls.regrown_of (GiRateOfCover.C (rates) ((PCover.Cover.mk x_id x_day x_zone x_grams x_paid x_from_ x_to_ x_leave x_arrive)) A0 c0 _   (Lib.hid (Cells.below (Cells.below M0.out l10.out) (below_regrown _ _ _))) N0 z10); replace H := let_hid H; obtain ⟨t_14, b11, H⟩ := H; refine wp_region_quiet_below (by kernel_rfl) (by kernel_rfl) ?_
  repeat (go_big_quiet_step (first | (go_at_call 85; exact p10 _ _)))
  refine wpQuiet_nil ?_; intro Y3 hY3; replace hY3 := below_class hY3; clear p10; replace c10 := r10.out; clear r10; replace i10 := y10.out; clear y10; replace g10 := q10.out; clear q10; replace k10 := t10.out; clear t10; replace d10 := m10.out; clear m10; replace e10 := s10.out; clear s10; replace f10 := x10.out; clear x10; replace j10 := n10.out; clear n10; replace h10 := o10.out; clear o10; have HBY3 := Lib.hid (Below.step l10.out hY3); replace c10 := cell_below hY3 c10; replace i10 := cell_below hY3 i10; replace g10 := cell_below hY3 g10; replace k10 := cell_below hY3 k10; replace d10 := cell_below hY3 d10; replace e10 := cell_below hY3 e10; replace f10 := cell_below hY3 f10; replace j10 := cell_below hY3 j10; replace h10 := cell_below hY3 h10; clear hY3; cases ret_hid H; go_wp2_with fail; go_ret2; exact ⟨rfl, HBY3.out⟩
end Go.Proofs.Ytihibckijdfidaa.GiIsExplained

namespace Go.Proofs.Ytihibckijdfidaa.GlEqRate
open Go.RowKit
open Go.Proofs.Ytihibckijdfidaa.Rowed Go.Proofs.Ytihibckijdfidaa.Turn Go.Proofs.Ytihibckijdfidaa.Aid Go.Proofs.Ytihibckijdfidaa.GoP Go.Proofs.Ytihibckijdfidaa.GoM

def P (a : PRate.Rate) (b : PRate.Rate) : Option (Bool) :=
 unRate a fun (a_zone : Int) (a_grams : Int) (a_from_ : Int) (a_until_ : Int) (a_cents : Int) =>
 unRate b fun (b_zone : Int) (b_grams : Int) (b_from_ : Int) (b_until_ : Int) (b_cents : Int) =>
 letK (a_zone != b_zone) fun (t_7 : Bool) =>
 iteK t_7
 (some false)
 (letK (a_grams != b_grams) fun (t_13 : Bool) =>
 iteK t_13
 (some false)
 (letK (a_from_ != b_from_) fun (t_19 : Bool) =>
 iteK t_19
 (some false)
 (letK (a_until_ != b_until_) fun (t_25 : Bool) =>
 iteK t_25
 (some false)
 (letK (a_cents != b_cents) fun (t_31 : Bool) =>
 iteK t_31
 (some false)
 (some true)))))

set_option maxRecDepth 100000 in
set_option maxHeartbeats 2000000 in
theorem C (a : PRate.Rate) (b : PRate.Rate)   (w : World)   {r : Bool} (H : Hid (P a b = some r)) :
  Calls Try.prog 86 #[a.val, b.val] w (Gives (.bool r) w) := by
 have HB := Lib.hid (Below.refl w.heap.size w); unfold P at H; obtain ⟨a_zone, a_grams, a_from_, a_until_, a_cents⟩ := a; replace H := unRate_hid H; obtain ⟨b_zone, b_grams, b_from_, b_until_, b_cents⟩ := b; replace H := unRate_hid H; unfold PRate.Rate.val
 go_enter Try.func86, Try.ntmps86
 obtain ⟨a10, c10⟩ : ∃ x, w.alloc (.cells #[.int .i64 a_zone, .int .i64 a_grams, .int .i64 a_from_, .int .i64 a_until_, .int .i64 a_cents] 120) = x := ⟨_, rfl⟩; have g10 : Below w.heap.size w a10 := (by rw [← c10]; exact (Below.refl _ _).alloc (Nat.le_refl _) _); have i10 := Lib.hid (Below.step HB.out g10); clear g10; have k10 : a10.cell? ⟨w.heap.size, 0, none⟩ = some (.int .i64 a_zone) := (by rw [← c10]; exact box_new _ _ _ 0 _ rfl); have j10 : a10.cell? ⟨w.heap.size, 1, none⟩ = some (.int .i64 a_grams) := (by rw [← c10]; exact box_new _ _ _ 1 _ rfl); have h10 : a10.cell? ⟨w.heap.size, 2, none⟩ = some (.int .i64 a_from_) := (by rw [← c10]; exact box_new _ _ _ 2 _ rfl); have l10 : a10.cell? ⟨w.heap.size, 3, none⟩ = some (.int .i64 a_until_) := (by rw [← c10]; exact box_new _ _ _ 3 _ rfl); have m10 : a10.cell? ⟨w.heap.size, 4, none⟩ = some (.int .i64 a_cents) := (by rw [← c10]; exact box_new _ _ _ 4 _ rfl); obtain ⟨e10, d10⟩ : ∃ x, a10.alloc (.cells #[.int .i64 b_zone, .int .i64 b_grams, .int .i64 b_from_, .int .i64 b_until_, .int .i64 b_cents] 120) = x := ⟨_, rfl⟩; have b10 : Below a10.heap.size a10 e10 := (by rw [← d10]; exact (Below.refl _ _).alloc (Nat.le_refl _) _); have f10 := Lib.hid (Below.step i10.out b10); have p10 := cell_below b10 k10; have a11 := cell_below b10 j10; have w10 := cell_below b10 h10; have b11 := cell_below b10 l10; have n10 := cell_below b10 m10; clear b10; have r10 : e10.cell? ⟨a10.heap.size, 0, none⟩ = some (.int .i64 b_zone) := (by rw [← d10]; exact box_new _ _ _ 0 _ rfl); have q10 : e10.cell? ⟨a10.heap.size, 1, none⟩ = some (.int .i64 b_grams) := (by rw [← d10]; exact box_new _ _ _ 1 _ rfl); have y10 : e10.cell? ⟨a10.heap.size, 2, none⟩ = some (.int .i64 b_from_) := (by rw [← d10]; exact box_new _ _ _ 2 _ rfl); have t10 : e10.cell? ⟨a10.heap.size, 3, none⟩ = some (.int .i64 b_until_) := (by rw [← d10]; exact box_new _ _ _ 3 _ rfl); have x10 : e10.cell? ⟨a10.heap.size, 4, none⟩ = some (.int .i64 b_cents) := (by rw [← d10]; exact box_new _ _ _ 4 _ rfl); replace H := let_hid H; obtain ⟨t_7, ht_7, H⟩ := H
 cases t_7 with
 | false =>
  replace H := ite_f H; replace H := let_hid H; obtain ⟨t_13, o10, H⟩ := H
  cases t_13 with
  | false =>
   replace H := ite_f H; replace H := let_hid H; obtain ⟨t_19, v10, H⟩ := H
   cases t_19 with
   | false =>
    replace H := ite_f H; replace H := let_hid H; obtain ⟨t_25, s10, H⟩ := H
    cases t_25 with
    | false =>
     replace H := ite_f H; replace H := let_hid H; obtain ⟨t_31, z10, H⟩ := H
     cases t_31 with
     | false =>
      replace H := ite_f H; obtain rfl := ret_hid H; go_wp2_with fail; go_ret; exact ⟨rfl, f10.out⟩
     | true =>
      replace H := ite_t H; obtain rfl := ret_hid H; go_wp2_with fail; go_ret; exact ⟨rfl, f10.out⟩
    | true =>
     replace H := ite_t H; obtain rfl := ret_hid H; go_wp2_with fail; go_ret; exact ⟨rfl, f10.out⟩
   | true =>
    replace H := ite_t H; obtain rfl := ret_hid H; go_wp2_with fail; go_ret; exact ⟨rfl, f10.out⟩
  | true =>
   replace H := ite_t H; obtain rfl := ret_hid H; go_wp2_with fail; go_ret; exact ⟨rfl, f10.out⟩
 | true =>
  replace H := ite_t H; obtain rfl := ret_hid H; go_wp2_with fail; go_ret; exact ⟨rfl, f10.out⟩
end Go.Proofs.Ytihibckijdfidaa.GlEqRate

namespace Go.Proofs.Ytihibckijdfidaa.GlEqRateS
open Go.RowKit
open Go.Proofs.Ytihibckijdfidaa.Rowed Go.Proofs.Ytihibckijdfidaa.Turn Go.Proofs.Ytihibckijdfidaa.Aid Go.Proofs.Ytihibckijdfidaa.GoP Go.Proofs.Ytihibckijdfidaa.GoM

def l0 (a : (List PRate.Rate)) (b : (List PRate.Rate)) (k0 : Nat) (s : Unit) (nx0 bk0 : Unit → Option (Bool)) : Option (Bool) :=
 
 Option.bind (idx a (k0 : Int)) fun (yt_14 : PRate.Rate) =>
 unRate yt_14 fun (t_14_zone : Int) (t_14_grams : Int) (t_14_from_ : Int) (t_14_until_ : Int) (t_14_cents : Int) =>
 Option.bind (idx b (k0 : Int)) fun (yt_18 : PRate.Rate) =>
 unRate yt_18 fun (t_18_zone : Int) (t_18_grams : Int) (t_18_from_ : Int) (t_18_until_ : Int) (t_18_cents : Int) =>
 Option.bind (GlEqRate.P (PRate.Rate.mk t_14_zone t_14_grams t_14_from_ t_14_until_ t_14_cents) (PRate.Rate.mk t_18_zone t_18_grams t_18_from_ t_18_until_ t_18_cents)) fun (t_20 : Bool) =>
 letK (!t_20) fun (t_21 : Bool) =>
 iteK t_21
 (some false)
 (appK nx0 ())

def e0  (s : Unit) : Option (Bool) :=
 
 some true

def P (a : (List PRate.Rate)) (b : (List PRate.Rate)) : Option (Bool) :=
 letK ((a.length : Int) != (b.length : Int)) fun (t_5 : Bool) =>
 iteK t_5
 (some false)
 (cntK (l0 a b) (a.length) 0 () (e0 ))

set_option maxRecDepth 100000 in
set_option maxHeartbeats 2000000 in
theorem C (a : (List PRate.Rate)) (b : (List PRate.Rate)) (A0 : Option Addr) (c0 : Nat) (A1 : Option Addr) (c1 : Nat)  (w : World) (M0 : Hid (Cells w 5 A0 a.length (PRate.flat a))) (N0 : Hid (a.length ≤ 9223372036854775807)) (M1 : Hid (Cells w 5 A1 b.length (PRate.flat b))) (N1 : Hid (b.length ≤ 9223372036854775807))  {r : Bool} (H : Hid (P a b = some r)) :
  Calls Try.prog 20 #[.slice A0 a.length c0, .slice A1 b.length c1] w (Gives (.bool r) w) := by
 have HB := Lib.hid (Below.refl w.heap.size w); unfold P at H; have N0o := N0.out; have N1o := N1.out
 go_enter Try.func20, Try.ntmps20
 replace H := let_hid H; obtain ⟨t_5, ht_5, H⟩ := H
 cases t_5 with
 | false =>
  have t11 : Hid (a.length = b.length) := Lib.hid (by have := bne_eq_false_iff_eq.1 ht_5; omega); have v11 : (a.length == b.length) = true := beq_iff_eq.2 t11.out; replace H := ite_f H; go_wp2_with fail; go_loopg [5] (a.length) (fun m_ v5_ wr => ∃ (k0 : Nat) , k0 + m_ = a.length ∧ v5_ = .int .i64 (k0 : Int) ∧ Hid (cntK (l0 a b) m_ k0 () (e0 ) = some r) ∧ Hid (Below w.heap.size w wr))
  case atStart => exact ⟨0, by omega, rfl, H, HB⟩
  case round =>
   obtain ⟨k0, hkm0, rfl, H, a10⟩ := hrel; rename World => wr0
   cases gk with
   | zero =>
    obtain rfl : k0 = a.length := (by omega); have hc0 : decide (((a.length : Nat) : Int) < ((a.length : Nat) : Int)) = false := (by simp); replace H := cnt_zero H; unfold e0 at H; obtain rfl := ret_hid H; go_wp2_with fail; go_ret; exact ⟨rfl, a10.out⟩
   | succ m0 =>
    have hlt0 : k0 < a.length := (by omega); have hc0 : decide ((k0 : Int) < ((a.length : Nat) : Int)) = true := (by simp; omega); replace H := cnt_succ H; unfold l0 at H; go_wp2_with fail; replace H := idx_hid H; obtain ⟨n11, o11, s11, p11, k11, H⟩ := H; obtain rfl : k0 = n11 := (by omega); clear s11; obtain ⟨y10, h11, a11, j11, z10⟩ := o11; replace H := unRate_hid H; obtain ⟨j12, f12, m12, y11, e11, b10, e10, h10, j10, f10⟩ := ORate.at_ M0.out p11; obtain rfl := Option.some.inj (k11.out.symm.trans e11); subst y11; have e12 := cell_lt b10; replace b10 := cell_below a10.out b10; replace e10 := cell_below a10.out e10; replace h10 := cell_below a10.out h10; replace j10 := cell_below a10.out j10; replace f10 := cell_below a10.out f10; clear e11; have n12 : (0 : Int) ≤ (k0 : Int) := (by omega); have i12 : (k0 : Int) < ((a.length : Nat) : Int) := (by omega); have d12 : ((k0 : Int)).toNat = k0 := (by omega); have s10 := Lib.hid b10; replace b10 := cell_regrown b10; have l10 := Lib.hid e10; replace e10 := cell_regrown e10; have n10 := Lib.hid h10; replace h10 := cell_regrown h10; have q10 := Lib.hid j10; replace j10 := cell_regrown j10; have w10 := Lib.hid f10; replace f10 := cell_regrown f10; replace H := idx_hid H; obtain ⟨x11, q11, l11, r11, w11, H⟩ := H; obtain rfl : k0 = x11 := (by omega); clear l11; obtain ⟨g11, c11, d11, b11, f11⟩ := q11; replace H := unRate_hid H; obtain ⟨l12, b12, c12, m11, i11, c10, d10, k10, g10, i10⟩ := ORate.at_ M1.out r11; obtain rfl := Option.some.inj (w11.out.symm.trans i11); subst m11; have g12 := cell_lt c10; replace c10 := cell_below a10.out c10; replace d10 := cell_below a10.out d10; replace k10 := cell_below a10.out k10; replace g10 := cell_below a10.out g10; replace i10 := cell_below a10.out i10; clear i11; have h12 : (0 : Int) ≤ (k0 : Int) := (by omega); have k12 : (k0 : Int) < ((b.length : Nat) : Int) := (by omega); have a12 : ((k0 : Int)).toNat = k0 := (by omega); have o10 := Lib.hid c10; replace c10 := cell_regrown c10; have p10 := Lib.hid d10; replace d10 := cell_regrown d10; have m10 := Lib.hid k10; replace k10 := cell_regrown k10; have t10 := Lib.hid g10; replace g10 := cell_regrown g10; have v10 := Lib.hid i10; replace i10 := cell_regrown i10; replace H := bind_hid H; obtain ⟨t_20, z11, H⟩ := H; have r10 : ∀ d os, Calls Try.prog 86 #[.agg #[.int .i64 y10, .int .i64 h11, .int .i64 a11, .int .i64 j11, .int .i64 z10], .agg #[.int .i64 g11, .int .i64 c11, .int .i64 d11, .int .i64 b11, .int .i64 f11]] (Go.Sort.grow (redrawn wr0 d) os) fun e w'' => e = .returned (.bool t_20) ∧ ∃ p : Regrown, w'' = Go.Sort.grow (redrawn wr0 p.d) p.os := fun d os => Calls.regrown_of (GlEqRate.C ((PRate.Rate.mk y10 h11 a11 j11 z10)) ((PRate.Rate.mk g11 c11 d11 b11 f11))  _    z11)
    cases t_20 with
    | false =>
     replace H := let_hid H; obtain ⟨t_21, x10, H⟩ := H; obtain rfl : t_21 = true := x10.symm; refine wp_region_quiet_below (by kernel_rfl) (by kernel_rfl) ?_
     repeat (go_big_quiet_step (first | (go_at_call 86; exact r10 _ _)))
     refine wpQuiet_nil ?_; intro Y6 hY6; replace hY6 := below_class hY6; clear r10; replace b10 := s10.out; clear s10; replace e10 := l10.out; clear l10; replace h10 := n10.out; clear n10; replace j10 := q10.out; clear q10; replace f10 := w10.out; clear w10; replace c10 := o10.out; clear o10; replace d10 := p10.out; clear p10; replace k10 := m10.out; clear m10; replace g10 := t10.out; clear t10; replace i10 := v10.out; clear v10; have HBY6 := Lib.hid (Below.step a10.out hY6); replace b10 := cell_below hY6 b10; replace e10 := cell_below hY6 e10; replace h10 := cell_below hY6 h10; replace j10 := cell_below hY6 j10; replace f10 := cell_below hY6 f10; replace c10 := cell_below hY6 c10; replace d10 := cell_below hY6 d10; replace k10 := cell_below hY6 k10; replace g10 := cell_below hY6 g10; replace i10 := cell_below hY6 i10; clear hY6; replace H := ite_t H; obtain rfl := ret_hid H; go_wp2_with fail; go_ret; exact ⟨rfl, HBY6.out⟩
    | true =>
     replace H := let_hid H; obtain ⟨t_21, x10, H⟩ := H; obtain rfl : t_21 = false := x10.symm; refine wp_region_quiet_below (by kernel_rfl) (by kernel_rfl) ?_
     repeat (go_big_quiet_step (first | (go_at_call 86; exact r10 _ _)))
     refine wpQuiet_nil ?_; intro Y6 hY6; replace hY6 := below_class hY6; clear r10; replace b10 := s10.out; clear s10; replace e10 := l10.out; clear l10; replace h10 := n10.out; clear n10; replace j10 := q10.out; clear q10; replace f10 := w10.out; clear w10; replace c10 := o10.out; clear o10; replace d10 := p10.out; clear p10; replace k10 := m10.out; clear m10; replace g10 := t10.out; clear t10; replace i10 := v10.out; clear v10; have HBY6 := Lib.hid (Below.step a10.out hY6); replace b10 := cell_below hY6 b10; replace e10 := cell_below hY6 e10; replace h10 := cell_below hY6 h10; replace j10 := cell_below hY6 j10; replace f10 := cell_below hY6 f10; replace c10 := cell_below hY6 c10; replace d10 := cell_below hY6 d10; replace k10 := cell_below hY6 k10; replace g10 := cell_below hY6 g10; replace i10 := cell_below hY6 i10; clear hY6; replace H := ite_f H; replace H := app_hid H; go_wp2_with fail
     go_roundg m0
     case measure => omega
     case rel => exact ⟨k0 + 1, by omega, by go_num, H, HBY6⟩
 | true =>
  have v11 : ¬ (a.length = b.length) := (by have := bne_iff_ne.1 ht_5; omega); replace H := ite_t H; obtain rfl := ret_hid H; go_wp2_with fail; go_ret; exact ⟨rfl, HB.out⟩
end Go.Proofs.Ytihibckijdfidaa.GlEqRateS

namespace Go.Proofs.Ytihibckijdfidaa.Q12Find
open Go.RowKit
open Go.Proofs.Ytihibckijdfidaa.GoP Go.Proofs.Ytihibckijdfidaa.PlainStamp Go.Proofs.Ytihibckijdfidaa.QBase Go.Proofs.Ytihibckijdfidaa.QLoop

/-- the first of a list for which there is an answer -/
theorem some_loop {α β σ R : Type} {l : List α} {g : α → Option β} (s0 : σ) {f : Nat → σ → (σ → Option R) → (σ → Option R) → Option R} {fin : σ → Option R} (yes : β → Option R)
    (step : ∀ k nx x, l[k]? = some x → f k s0 nx fin = match g x with | some y => yes y | none => nx s0) : cntK f l.length 0 s0 fin = match l.findSome? g with | some y => yes y | none => fin s0 := by
  have key : ∀ m k, k + m = l.length → cntK f m k s0 fin = match (l.drop k).findSome? g with | some y => yes y | none => fin s0 := by
    intro m
    induction m with
    | zero => intro k hk; rw [List.drop_of_length_le (by omega)]; rfl
    | succ m ih =>
      intro k hk
      obtain ⟨x, hx, _⟩ := at_lt (l := l) (k := k) (by omega)
      obtain ⟨hlt, e⟩ := List.getElem?_eq_some_iff.1 hx
      show f k s0 _ fin = _
      rw [step k _ x hx, List.drop_eq_getElem_cons hlt, e, List.findSome?_cons]
      cases hp : g x with
      | some y => rfl
      | none => exact ih (k + 1) (by omega)
  exact key l.length 0 (by omega)
theorem up_ext {l m : List Int} (hl : List.Pairwise (fun a b => a < b) l) (hm : List.Pairwise (fun a b => a < b) m) (h : ∀ x, x ∈ l ↔ x ∈ m) : l = m := by
  induction l generalizing m with
  | nil =>
    cases m with
    | nil => rfl
    | cons y m => exact absurd ((h y).2 (by simp)) (by simp)
  | cons x l ih =>
    cases m with
    | nil => exact absurd ((h x).1 (by simp)) (by simp)
    | cons y m =>
      rw [List.pairwise_cons] at hl hm
      have hxy : x = y := by
        rcases List.mem_cons.1 ((h x).1 (by simp)) with h1 | h1
        · exact h1
        · rcases List.mem_cons.1 ((h y).2 (by simp)) with h2 | h2
          · exact h2.symm
          · have := hl.1 y h2; have := hm.1 x h1; omega
      subst hxy
      rw [ih hl.2 hm.2]
      intro z
      constructor
      · intro hz
        have h1 := hl.1 z hz
        rcases List.mem_cons.1 ((h z).1 (List.mem_cons_of_mem _ hz)) with h2 | h2
        · omega
        · exact h2
      · intro hz
        have h1 := hm.1 z hz
        rcases List.mem_cons.1 ((h z).2 (List.mem_cons_of_mem _ hz)) with h2 | h2
        · omega
        · exact h2
theorem fs_filter {β : Type} (l : List Int) (f : Int → Option β) : l.findSome? f = (l.filter fun x => (f x).isSome).findSome? f := by
  induction l with
  | nil => rfl
  | cons x l ih =>
    rw [List.findSome?_cons, List.filter_cons]
    cases hf : f x with
    | some y => simp [hf]
    | none => simp [ih]
/-- two rising lists that differ in nothing for which there is an answer have the same first answer -/
theorem fs_same {β : Type} {l m : List Int} (hl : List.Pairwise (fun a b => a < b) l) (hm : List.Pairwise (fun a b => a < b) m) {f : Int → Option β} (h : ∀ x, (f x).isSome = true → (x ∈ l ↔ x ∈ m)) : l.findSome? f = m.findSome? f := by
  rw [fs_filter l, fs_filter m, up_ext (hl.filter _) (hm.filter _)]
  intro x
  rw [List.mem_filter, List.mem_filter]
  constructor
  · rintro ⟨h1, h2⟩; exact ⟨(h x h2).1 h1, h2⟩
  · rintro ⟨h1, h2⟩; exact ⟨(h x h2).2 h1, h2⟩
end Go.Proofs.Ytihibckijdfidaa.Q12Find

namespace Go.Proofs.Ytihibckijdfidaa.QAll
open Go.RowKit
open Go.Proofs.Ytihibckijdfidaa.GoP Go.Proofs.Ytihibckijdfidaa.QBase Go.Proofs.Ytihibckijdfidaa.QLoop

/-- each number below n is good -/
def allN (n : Nat) (p : Nat → Bool) : Bool := (List.range n).all p
theorem lp_ex {σ ρ : Type} {f : σ → (σ → Option ρ) → (σ → Option ρ) → Option ρ} {fin : σ → Option ρ} {Q : ρ → Prop} {n : Nat} (I : Nat → σ → Prop)
    (step : ∀ k s nx, k < n → I k s → (∀ s', I (k + 1) s' → ∃ r, nx s' = some r ∧ Q r) → ∃ r, f s nx fin = some r ∧ Q r) (done : ∀ s nx, I n s → ∃ r, f s nx fin = some r ∧ Q r) :
    ∀ fuel k s, k ≤ n → n - k < fuel → I k s → ∃ r, loopK f fuel s fin = some r ∧ Q r := by
  intro fuel
  induction fuel with
  | zero => intro k s hk hf; omega
  | succ m ih =>
    intro k s hk hf hI
    show ∃ r, f s _ fin = some r ∧ Q r
    by_cases he : k = n
    · subst he; exact done s _ hI
    · exact step k s _ (by omega) hI (fun s' h' => ih (k + 1) s' (by omega) (by omega) h')
end Go.Proofs.Ytihibckijdfidaa.QAll

namespace Go.Proofs.Ytihibckijdfidaa.QUp
open Go.RowKit
open Go.Proofs.Ytihibckijdfidaa.GoP Go.Proofs.Ytihibckijdfidaa.QBase Go.Proofs.Ytihibckijdfidaa.QLoop Go.Proofs.Ytihibckijdfidaa.QAll

/-- a loop with fuel, from k on, by an invariant -/
theorem lp_is {σ ρ : Type} {f : σ → (σ → Option ρ) → (σ → Option ρ) → Option ρ} {fin : σ → Option ρ} {n : Nat} (r : ρ) (I : Nat → σ → Prop)
    (step : ∀ k s nx, k < n → I k s → (∀ s', I (k + 1) s' → nx s' = some r) → f s nx fin = some r) (done : ∀ s nx, I n s → f s nx fin = some r) (fuel : Nat) (k : Nat) (s : σ) (hk : k ≤ n) (hf : n - k < fuel) (hI : I k s) : loopK f fuel s fin = some r := by
  obtain ⟨r', h, rfl⟩ := lp_ex (Q := fun x => x = r) I (fun k s nx hk hI hn => ⟨r, step k s nx hk hI (fun s' h' => by obtain ⟨_, h, rfl⟩ := hn s' h'; exact h), rfl⟩) (fun s nx h => ⟨r, done s nx h, rfl⟩) fuel k s hk hf hI
  exact h
end Go.Proofs.Ytihibckijdfidaa.QUp

namespace Go.Proofs.Ytihibckijdfidaa.GoH
theorem step_append_own {P : Program} {w : World} {ops : Array Oper} {o : Oper} {a : Act} {K : Act → World → Prop} {Q : Exit → Act → World → Prop} {E : Prop} (hgd : o.guard = none) (s x : Operand) (t : TypeId)
    (ho : o.op = .call { callee := .builtin .append, args := #[s, x], argTypes := #[t, t] })
    (base : Nat) (e : TypeId) (i : TypeInfo) (z : Value) (size bytes : Nat) (ht : P.underlying t = some (.slice e)) (hi : P.info? e = some i) (hz : i.zero = some z)
    (hsize : i.size = size) (hby : i.bytes = bytes) (hzs : z.cells.size = size) (hsz : 0 < size)
    (A : Option Addr) (c n : Nat) (xs : List Value) (hs : a.eval s = .slice A n c) (hown : w.ownsRow base e size (.slice A n c) n xs)
    (ad : Addr) (cc : Nat) (news : List Value) (hx : a.eval x = .slice (some ad) 1 cc) (hl : news.length = 1 * size) (hnews : ∀ j u, news[j]? = some u → w.cell? (ad.add j) = some u) (h1 : ∀ u ∈ news, u.oneCell' = true)
    (h63 : n + 1 ≤ maxLen) (hbytes : (n + 1) * bytes ≤ 140737488355328) (hbase : base ≤ w.heap.size)
    (h : ∀ v' w', w'.ownsRow base e size v' (n + 1) (xs ++ news) → w.grownBy w' (Value.slice A n c).ownBlock → (v'.ownBlock = (Value.slice A n c).ownBlock ∨ v'.ownBlock = some w.heap.size) → K (a.put o.dst v') w') :
    if Region.wanted o (yielded ops a.tmps) = true then Oper.wp P o a w K Q else E := by
  refine Go.step_append_lies w hgd s x t ho base e i z size bytes ht hi hz hsize hby hzs hsz (.slice A n c) n xs hs hown ad 1 cc news hx hl hnews h1 (by omega) h63 hbytes hbase w.heap.size rfl ?_
  intro g cap w' o1 g1 y1 _
  refine h _ w' o1 g1 ?_
  rcases y1 with y1 | y1
  · left; rw [y1]; rfl
  · right; rw [y1]; rfl
/-- append(a, b...) onto a row of its own as one step of such a region -/
theorem step_spread_own {P : Program} {w : World} {ops : Array Oper} {o : Oper} {a : Act} {K : Act → World → Prop} {Q : Exit → Act → World → Prop} {E : Prop} (hgd : o.guard = none) (s x : Operand) (t : TypeId)
    (ho : o.op = .call { callee := .builtin .append, args := #[s, x], argTypes := #[t, t] })
    (base : Nat) (e : TypeId) (i : TypeInfo) (z : Value) (size bytes : Nat) (ht : P.underlying t = some (.slice e)) (hi : P.info? e = some i) (hz : i.zero = some z)
    (hsize : i.size = size) (hby : i.bytes = bytes) (hzs : z.cells.size = size) (hsz : 0 < size)
    (A1 : Option Addr) (c1 n : Nat) (xs : List Value) (hs : a.eval s = .slice A1 n c1) (hown : w.ownsRow base e size (.slice A1 n c1) n xs)
    (A : Option Addr) (m c : Nat) (news : List Value) (hx : a.eval x = .slice A m c) (hN : Go.Proofs.Ytihibckijdfidaa.GoM.Room A m c) (hc : Go.Proofs.Ytihibckijdfidaa.Rowed.Cells w size A m news) (h1 : ∀ u ∈ news, u.oneCell' = true)
    (h63 : n + m ≤ maxLen) (hbytes : (n + m) * bytes ≤ 140737488355328) (hbase : base ≤ w.heap.size)
    (h : ∀ v' w', w'.ownsRow base e size v' (n + m) (xs ++ news) → w.grownBy w' (Value.slice A1 n c1).ownBlock → (v'.ownBlock = (Value.slice A1 n c1).ownBlock ∨ v'.ownBlock = some w.heap.size) → K (a.put o.dst v') w') :
    if Region.wanted o (yielded ops a.tmps) = true then Oper.wp P o a w K Q else E := by
  have hw : Region.wanted o (yielded ops a.tmps) = true := by simp [Region.wanted, hgd]
  rw [if_pos hw]
  obtain ⟨v', w', hr, h2, h3, h5⟩ : ∃ v' w', (Builtin.append_ #[t, t] o.type #[.slice A1 n c1, .slice A m c]).run P w = .ok v' w' ∧ w'.ownsRow base e size v' (n + m) (xs ++ news) ∧ w.grownBy w' (Value.slice A1 n c1).ownBlock ∧ (v'.ownBlock = (Value.slice A1 n c1).ownBlock ∨ v'.ownBlock = some w.heap.size) := by
    cases A with
    | some ad =>
      obtain ⟨v', w', hr, h2, h3, _, h5⟩ := run_append_own_at (P := P) w base t o.type e i z size bytes ht hi hz hsize hby hzs hsz (.slice A1 n c1) n xs hown ad m c news hc.1 (fun j u hu => by
        obtain ⟨ad', e', hcell⟩ := hc.2 (by have := (List.getElem?_eq_some_iff.1 hu).1; omega)
        obtain rfl : ad = ad' := Option.some.inj e'
        exact hcell j u hu) h1 h63 hbytes hbase
      exact ⟨v', w', hr, h2, h3, h5⟩
    | none =>
      have hm : m = 0 := by
        cases news with
        | nil =>
          have h0 : ([] : List Value).length = m * size := hc.1
          rw [List.length_nil] at h0
          rcases Nat.mul_eq_zero.1 h0.symm with h1 | h1 <;> omega
        | cons y l => obtain ⟨ad, e', _⟩ := hc.2 (by simp); simp at e'
      obtain rfl : c = 0 := hN.2 rfl
      subst hm
      have hn : news = [] := List.eq_nil_of_length_eq_zero (by have := hc.1; simpa using this)
      subst hn
      exact ⟨_, w, run_append_owned_none (P := P) w base t o.type e i size ht hi (.slice A1 n c1) n xs hown, by simpa using hown, World.grownBy.refl w _, .inl rfl⟩
  unfold Oper.wp execOp
  simp only [ho, resolve, invoke, builtin, Sem.run_bind, Sem.run_pure, Result.andThen_ok, List.map_toArray, List.map_cons, List.map_nil, hs, hx, hr]
  exact h v' w' h2 h3 h5
end Go.Proofs.Ytihibckijdfidaa.GoH

namespace Go.Proofs.Ytihibckijdfidaa.GoK
open Go.RowKit
open Go.Proofs.Ytihibckijdfidaa.Rowed Go.Proofs.Ytihibckijdfidaa.Turn Go.Proofs.Ytihibckijdfidaa.GoM

/-- a test of a row against nil: only an empty row can be nil, and then both ways have one answer -/
def nilK {α ρ : Type} (l : List α) (f : Bool → Option ρ) : Option ρ := f false
/-- where a row lies that a function hands on: where another one lay, or behind all that was there -/
def From (w : World) (A A' : Option Addr) : Prop := ∀ a', A' = some a' → (∃ a, A = some a ∧ a.block = a'.block) ∨ w.heap.size ≤ a'.block
theorem from_self {w : World} {A : Option Addr} : From w A A := fun a h => .inl ⟨a, h, rfl⟩
theorem apart_from {w : World} {A A' B : Option Addr} (hD : Apart A B) (hB : ∀ a, B = some a → a.block < w.heap.size) (h : From w A A') : Apart A' B := by
  intro a a' ha ha' e
  have hl := hB a' ha'
  rcases h a ha with ⟨a2, h2, e2⟩ | h2
  · exact hD a2 a' h2 ha' (e2.trans e)
  · omega
theorem own_setCells {b T K n c g : Nat} : ∀ (vs : List Value) (o : Nat) {w : World} {xs : List Value}, w.ownsRow b T K (.slice (some ⟨g, 0, none⟩) n c) n xs → o + vs.length ≤ xs.length →
    (w.setCells g o vs).ownsRow b T K (.slice (some ⟨g, 0, none⟩) n c) n (xs.take o ++ vs ++ xs.drop (o + vs.length)) ∧ w.grownBy (w.setCells g o vs) (some g) := by
  intro vs
  induction vs with
  | nil => intro o w xs h _; exact ⟨by simpa [World.setCells] using h, Aid.grown_refl _ _⟩
  | cons v vs ih =>
    intro o w xs h hl
    simp only [List.length_cons] at hl
    have h1 := h.stored o v
    have h2 := ih (o + 1) h1.1 (by rw [List.length_set]; omega)
    refine ⟨?_, Aid.grown_tr h1.2 h2.2⟩
    have e : (xs.set o v).take (o + 1) ++ vs ++ (xs.set o v).drop (o + 1 + vs.length) = xs.take o ++ (v :: vs) ++ xs.drop (o + (v :: vs).length) := by
      have ho : o < xs.length := by omega
      rw [List.drop_set_of_lt (by omega), List.take_add_one, List.getElem?_set_self ho, List.take_set_of_le (Nat.le_refl _)]
      simp [Nat.add_comm, Nat.add_left_comm]
    rw [← e]
    exact h2.1
theorem own_baseM {w : World} {base base' T K n c : Nat} {A : Option Addr} {xs : List Value} (hb : base' ≤ base) (h : w.ownsRow base T K (.slice A n c) n xs) : w.ownsRow base' T K (.slice A n c) n xs := by
  refine ⟨h.1, ?_⟩
  rcases h.2 with h0 | ⟨g3, cap3, cu, h0, h1, r⟩
  · exact .inl h0
  · exact .inr ⟨g3, cap3, cu, h0, Nat.le_trans hb h1, r⟩
theorem from_own {w w' : World} {T K n m c : Nat} {A A' : Option Addr} {xs : List Value} (h : w'.ownsRow w.heap.size T K (.slice A' m c) n xs) : From w A A' := fun a e => .inr (own_lt h a e).1
end Go.Proofs.Ytihibckijdfidaa.GoK

