/- Texts on which the proofs of several laws stand, one behind the other (3 of 24). No condition of their own. -/
import Derived.Test.YtihibckijdfidaaChecked
import Derived.Test.YtihibckijdfidaaX12P1
import Derived.Test.YtihibckijdfidaaX12P2
import Derived.WalkKit
import Derived.WalkSpells
import Derived.WalkLawsBesides
import Derived.BigQuiet
import Derived.OwnWalk
import Derived.Deep.LoopGhost
import Derived.Deep.QuietTactic
import Derived.IntWalk
import Derived.Lib.QuietBelow
import Derived.Laws.StructEq
import Derived.ChangeKeysEq
import Derived.Deep.RegionHeld3
set_option linter.unusedVariables false
set_option linter.unusedSimpArgs false
namespace Go.Proofs.Ytihibckijdfidaa.GsL8Good
open Go.RowKit
open Go.Proofs.Ytihibckijdfidaa.Rowed Go.Proofs.Ytihibckijdfidaa.Turn Go.Proofs.Ytihibckijdfidaa.Aid Go.Proofs.Ytihibckijdfidaa.GoP Go.Proofs.Ytihibckijdfidaa.GoM

def l0 (list : (List PRate.Rate)) (s : Int) (nx0 bk0 : Int → Option (Bool)) : Option (Bool) :=
 letK s fun i_3l0 =>
 letK (decide (i_3l0 < (list.length : Int))) fun (t_5 : Bool) =>
 joinK (fun (t_9 : Bool) =>
 iteK t_9
 (Option.bind (idx list i_3l0) fun (yt_12 : PRate.Rate) =>
 unRate yt_12 fun (t_12_zone : Int) (t_12_grams : Int) (t_12_from_ : Int) (t_12_until_ : Int) (t_12_cents : Int) =>
 Option.bind (GsL8One.P (PRate.Rate.mk t_12_zone t_12_grams t_12_from_ t_12_until_ t_12_cents)) fun (t_14 : Bool) =>
 letK (!t_14) fun (t_15 : Bool) =>
 joinK (fun (t_33 : Bool) =>
 iteK t_33
 (some false)
 (letK (decide (0 < i_3l0)) fun (t_36 : Bool) =>
 joinK (fun (t_50 : Bool) =>
 joinK (fun (t_64 : Bool) =>
 joinK (fun (t_78 : Bool) =>
 iteK t_78
 (some false)
 (letK (IntKind.i64.wrap (i_3l0 + 1)) fun (t_81 : Int) =>
 appK nx0 (t_81))) fun jt_78 => iteK t_64 (letK (IntKind.i64.wrap (i_3l0 - 1)) fun (t_68 : Int) =>
 Option.bind (idx list t_68) fun (yt_69 : PRate.Rate) =>
 unRate yt_69 fun (t_69_zone : Int) (t_69_grams : Int) (t_69_from_ : Int) (t_69_until_ : Int) (t_69_cents : Int) =>
 Option.bind (idx list i_3l0) fun (yt_74 : PRate.Rate) =>
 unRate yt_74 fun (t_74_zone : Int) (t_74_grams : Int) (t_74_from_ : Int) (t_74_until_ : Int) (t_74_cents : Int) =>
 letK (decide (t_74_from_ ≤ t_69_until_)) fun (t_77 : Bool) =>
 appK jt_78 t_77) (appK jt_78 false)) fun jt_64 => iteK t_50 (letK (IntKind.i64.wrap (i_3l0 - 1)) fun (t_54 : Int) =>
 Option.bind (idx list t_54) fun (yt_55 : PRate.Rate) =>
 unRate yt_55 fun (t_55_zone : Int) (t_55_grams : Int) (t_55_from_ : Int) (t_55_until_ : Int) (t_55_cents : Int) =>
 Option.bind (idx list i_3l0) fun (yt_60 : PRate.Rate) =>
 unRate yt_60 fun (t_60_zone : Int) (t_60_grams : Int) (t_60_from_ : Int) (t_60_until_ : Int) (t_60_cents : Int) =>
 letK (t_55_grams == t_60_grams) fun (t_63 : Bool) =>
 appK jt_64 t_63) (appK jt_64 false)) fun jt_50 => iteK t_36 (letK (IntKind.i64.wrap (i_3l0 - 1)) fun (t_40 : Int) =>
 Option.bind (idx list t_40) fun (yt_41 : PRate.Rate) =>
 unRate yt_41 fun (t_41_zone : Int) (t_41_grams : Int) (t_41_from_ : Int) (t_41_until_ : Int) (t_41_cents : Int) =>
 Option.bind (idx list i_3l0) fun (yt_46 : PRate.Rate) =>
 unRate yt_46 fun (t_46_zone : Int) (t_46_grams : Int) (t_46_from_ : Int) (t_46_until_ : Int) (t_46_cents : Int) =>
 letK (t_41_zone == t_46_zone) fun (t_49 : Bool) =>
 appK jt_50 t_49) (appK jt_50 false))) fun jt_33 => iteK t_15 (appK jt_33 true) (letK (decide (0 < i_3l0)) fun (t_18 : Bool) =>
 joinK (fun (t_32 : Bool) =>
 appK jt_33 t_32) fun jt_32 => iteK t_18 (letK (IntKind.i64.wrap (i_3l0 - 1)) fun (t_22 : Int) =>
 Option.bind (idx list t_22) fun (yt_23 : PRate.Rate) =>
 unRate yt_23 fun (t_23_zone : Int) (t_23_grams : Int) (t_23_from_ : Int) (t_23_until_ : Int) (t_23_cents : Int) =>
 Option.bind (GsL8Code.P (PRate.Rate.mk t_23_zone t_23_grams t_23_from_ t_23_until_ t_23_cents)) fun (t_25 : Int) =>
 Option.bind (idx list i_3l0) fun (yt_28 : PRate.Rate) =>
 unRate yt_28 fun (t_28_zone : Int) (t_28_grams : Int) (t_28_from_ : Int) (t_28_until_ : Int) (t_28_cents : Int) =>
 Option.bind (GsL8Code.P (PRate.Rate.mk t_28_zone t_28_grams t_28_from_ t_28_until_ t_28_cents)) fun (t_30 : Int) =>
 letK (decide (t_30 ≤ t_25)) fun (t_31 : Bool) =>
 appK jt_32 t_31) (appK jt_32 false)))
 (appK bk0 (i_3l0))) fun jt_9 => iteK t_5 (letK (decide (i_3l0 ≤ 16)) fun (t_8 : Bool) =>
 appK jt_9 t_8) (appK jt_9 false)

def e0 (list : (List PRate.Rate)) (s : Int) : Option (Bool) :=
 letK s fun i_3l0 =>
 letK (decide ((list.length : Int) ≤ 16)) fun (t_85 : Bool) =>
 some t_85

def P (fuel : Nat) (list : (List PRate.Rate)) : Option (Bool) :=
 loopK (l0 list) fuel (0) (e0 list)

set_option maxRecDepth 100000 in
set_option maxHeartbeats 2000000 in
theorem C (fuel : Nat) (list : (List PRate.Rate)) (A0 : Option Addr) (c0 : Nat)  (w : World) (M0 : Hid (Cells w 5 A0 list.length (PRate.flat list))) (N0 : Hid (list.length ≤ 9223372036854775807))  {r : Bool} (H : Hid (P fuel list = some r)) :
  Calls Try.prog 80 #[.slice A0 list.length c0] w (Gives (.bool r) w) := by
 have HB := Lib.hid (Below.refl w.heap.size w); unfold P at H; have N0o := N0.out
 go_enter Try.func80, Try.ntmps80
 go_wp2_with fail; go_loopg [3] (fuel) (fun m_ v3_ wr => ∃ (l11 : Int), v3_ = .int .i64 l11 ∧ Hid (loopK (l0 list) m_ (l11) (e0 list) = some r) ∧ Hid (Below w.heap.size w wr))
 case atStart => exact ⟨_, rfl, H, HB⟩
 case round =>
  obtain ⟨l11, rfl, H, p10⟩ := hrel; rename World => wr0
  cases gk with
  | zero => exact (loop_zero H).elim
  | succ m0 =>
   replace H := loop_succ H; unfold l0 at H; replace H := let_hid H; obtain ⟨_, rfl, H⟩ := H; replace H := let_hid H; obtain ⟨t_5, ht_5, H⟩ := H; replace H := join_hid H
   cases t_5 with
   | false =>
    replace H := ite_f H; replace H := app_hid H; replace H := ite_f H; replace H := app_hid H; unfold e0 at H; replace H := let_hid H; obtain ⟨_, rfl, H⟩ := H; replace H := let_hid H; obtain ⟨t_85, j13, H⟩ := H; obtain rfl := ret_hid H; go_wp2_with fail; go_ret; exact ⟨rfl, p10.out⟩
   | true =>
    replace H := ite_t H; replace H := let_hid H; obtain ⟨t_8, ht_8, H⟩ := H; replace H := app_hid H
    cases t_8 with
    | false =>
     replace H := ite_f H; replace H := app_hid H; unfold e0 at H; replace H := let_hid H; obtain ⟨_, rfl, H⟩ := H; replace H := let_hid H; obtain ⟨t_85, j13, H⟩ := H; obtain rfl := ret_hid H; go_wp2_with fail; go_ret; exact ⟨rfl, p10.out⟩
    | true =>
     replace H := ite_t H; go_wp2_with fail; replace H := idx_hid H; obtain ⟨q10, r12, i12, z12, z10, H⟩ := H; subst i12; have q13 : q10 < list.length := (by have := of_decide_eq_true ht_5; omega); have d14 : q10 ≤ 16 := (by have := of_decide_eq_true ht_8; omega); obtain ⟨c11, d11, e11, g11, a11⟩ := r12; replace H := unRate_hid H; obtain ⟨q14, b14, y13, f13, v11, a10, e10, c10, d10, b10⟩ := ORate.at_ M0.out z12; obtain rfl := Option.some.inj (z10.out.symm.trans v11); subst f13; have p13 := cell_lt a10; replace a10 := cell_below p10.out a10; replace e10 := cell_below p10.out e10; replace c10 := cell_below p10.out c10; replace d10 := cell_below p10.out d10; replace b10 := cell_below p10.out b10; clear v11; have w13 : (0 : Int) ≤ (q10 : Int) := (by omega); have m14 : (q10 : Int) < ((list.length : Nat) : Int) := (by omega); have c14 : ((q10 : Int)).toNat = q10 := (by omega); have k10 := Lib.hid a10; replace a10 := cell_regrown a10; have l10 := Lib.hid e10; replace e10 := cell_regrown e10; have o10 := Lib.hid c10; replace c10 := cell_regrown c10; have m10 := Lib.hid d10; replace d10 := cell_regrown d10; have n10 := Lib.hid b10; replace b10 := cell_regrown b10; replace H := bind_hid H; obtain ⟨t_14, l12, H⟩ := H; have y10 : ∀ d os, Calls Try.prog 151 #[.agg #[.int .i64 c11, .int .i64 d11, .int .i64 e11, .int .i64 g11, .int .i64 a11]] (Go.Sort.grow (redrawn wr0 d) os) fun e w'' => e = .returned (.bool t_14) ∧ ∃ p : Regrown, w'' = Go.Sort.grow (redrawn wr0 p.d) p.os := fun d os => Calls.regrown_of (GsL8One.C ((PRate.Rate.mk c11 d11 e11 g11 a11))  _    l12)
     cases t_14 with
     | false =>
      replace H := let_hid H; obtain ⟨t_15, k11, H⟩ := H; obtain rfl : t_15 = true := k11.symm; replace H := join_hid H; replace H := ite_t H; replace H := app_hid H; refine wp_region_quiet_below (by kernel_rfl) (by kernel_rfl) ?_
      repeat (go_big_quiet_step (first | (go_at_call 151; exact y10 _ _)))
      refine wpQuiet_nil ?_; intro Y4 hY4; replace hY4 := below_class hY4; clear y10; replace a10 := k10.out; clear k10; replace e10 := l10.out; clear l10; replace c10 := o10.out; clear o10; replace d10 := m10.out; clear m10; replace b10 := n10.out; clear n10; have HBY4 := Lib.hid (Below.step p10.out hY4); replace a10 := cell_below hY4 a10; replace e10 := cell_below hY4 e10; replace c10 := cell_below hY4 c10; replace d10 := cell_below hY4 d10; replace b10 := cell_below hY4 b10; clear hY4; replace H := ite_t H; obtain rfl := ret_hid H; go_wp2_with fail; go_ret; exact ⟨rfl, HBY4.out⟩
     | true =>
      replace H := let_hid H; obtain ⟨t_15, k11, H⟩ := H; obtain rfl : t_15 = false := k11.symm; replace H := join_hid H; replace H := ite_f H; replace H := let_hid H; obtain ⟨t_18, f11, H⟩ := H; replace H := join_hid H
      cases t_18 with
      | false =>
       have e13 : ¬ (0 < q10) := (by have := of_decide_eq_false f11; omega); replace H := ite_f H; replace H := app_hid H; replace H := app_hid H; refine wp_region_quiet_below (by kernel_rfl) (by kernel_rfl) ?_
       repeat (go_big_quiet_step (first | (go_at_call 151; exact y10 _ _)))
       refine wpQuiet_nil ?_; intro Y4 hY4; replace hY4 := below_class hY4; clear y10; replace a10 := k10.out; clear k10; replace e10 := l10.out; clear l10; replace c10 := o10.out; clear o10; replace d10 := m10.out; clear m10; replace b10 := n10.out; clear n10; have HBY4 := Lib.hid (Below.step p10.out hY4); replace a10 := cell_below hY4 a10; replace e10 := cell_below hY4 e10; replace c10 := cell_below hY4 c10; replace d10 := cell_below hY4 d10; replace b10 := cell_below hY4 b10; clear hY4; replace H := ite_f H; go_wp2_with fail; have k10 := Lib.hid a10; replace a10 := cell_regrown a10; have l10 := Lib.hid e10; replace e10 := cell_regrown e10; have o10 := Lib.hid c10; replace c10 := cell_regrown c10; have m10 := Lib.hid d10; replace d10 := cell_regrown d10; have n10 := Lib.hid b10; replace b10 := cell_regrown b10; replace H := let_hid H; obtain ⟨t_36, j11, H⟩ := H; obtain rfl := f11.symm.trans j11; replace H := join_hid H; replace H := ite_f H; replace H := app_hid H; replace H := join_hid H; replace H := ite_f H; replace H := app_hid H; replace H := join_hid H; replace H := ite_f H; replace H := app_hid H; refine wp_region_quiet_below (by kernel_rfl) (by kernel_rfl) ?_
       repeat (go_big_quiet_step (fail))
       refine wpQuiet_nil ?_; intro Y6 hY6; replace hY6 := below_class hY6; replace a10 := k10.out; clear k10; replace e10 := l10.out; clear l10; replace c10 := o10.out; clear o10; replace d10 := m10.out; clear m10; replace b10 := n10.out; clear n10; have HBY6 := Lib.hid (Below.step HBY4.out hY6); replace a10 := cell_below hY6 a10; replace e10 := cell_below hY6 e10; replace c10 := cell_below hY6 c10; replace d10 := cell_below hY6 d10; replace b10 := cell_below hY6 b10; clear hY6; replace H := ite_f H; replace H := let_hid H; obtain ⟨t_81, m11, H⟩ := H; replace H := app_hid H; go_wp2_with fail
       go_roundg m0
       case measure => omega
       case rel => exact ⟨_, rfl, H, HBY6⟩
      | true =>
       have e13 : 0 < q10 := (by have := of_decide_eq_true f11; omega); replace H := ite_t H; replace H := let_hid H; obtain ⟨t_22, n11, H⟩ := H; replace H := idx_hid H; obtain ⟨x10, w12, g12, n12, b11, H⟩ := H; subst g12; obtain ⟨z11, q11, w11, a12, t11⟩ := w12; replace H := unRate_hid H; obtain ⟨j14, o14, h14, r11, o11, f10, h10, j10, i10, g10⟩ := ORate.at_ M0.out n12; obtain rfl := Option.some.inj (b11.out.symm.trans o11); simp only [Option.some.injEq, Addr.mk.injEq] at r11; obtain ⟨rfl, rfl, _⟩ := r11; have x13 := cell_lt f10; replace f10 := cell_below p10.out f10; replace h10 := cell_below p10.out h10; replace j10 := cell_below p10.out j10; replace i10 := cell_below p10.out i10; replace g10 := cell_below p10.out g10; clear o11; have z13 : (0 : Int) ≤ (x10 : Int) := (by omega); have r13 : (x10 : Int) < ((list.length : Nat) : Int) := (by omega); have g14 : ((x10 : Int)).toNat = x10 := (by omega); have s10 := Lib.hid f10; replace f10 := cell_regrown f10; have v10 := Lib.hid h10; replace h10 := cell_regrown h10; have t10 := Lib.hid j10; replace j10 := cell_regrown j10; have w10 := Lib.hid i10; replace i10 := cell_regrown i10; have r10 := Lib.hid g10; replace g10 := cell_regrown g10; replace H := bind_hid H; obtain ⟨t_25, v12, H⟩ := H; have h11 : ∀ d os, Calls Try.prog 152 #[.agg #[.int .i64 z11, .int .i64 q11, .int .i64 w11, .int .i64 a12, .int .i64 t11]] (Go.Sort.grow (redrawn wr0 d) os) fun e w'' => e = .returned (.int .i64 t_25) ∧ ∃ p : Regrown, w'' = Go.Sort.grow (redrawn wr0 p.d) p.os := fun d os => Calls.regrown_of (GsL8Code.C ((PRate.Rate.mk z11 q11 w11 a12 t11))  _    v12); replace H := idx_hid H; obtain ⟨m12, a14, m13, k12, y11, H⟩ := H; obtain rfl : q10 = m12 := (by omega); clear m13; obtain rfl := Option.some.inj (z10.out.symm.trans y11.out); clear y11 k12; replace H := unRate_hid H; replace H := bind_hid H; obtain ⟨t_30, d13, H⟩ := H; have i11 : ∀ d os, Calls Try.prog 152 #[.agg #[.int .i64 c11, .int .i64 d11, .int .i64 e11, .int .i64 g11, .int .i64 a11]] (Go.Sort.grow (redrawn wr0 d) os) fun e w'' => e = .returned (.int .i64 t_30) ∧ ∃ p : Regrown, w'' = Go.Sort.grow (redrawn wr0 p.d) p.os := fun d os => Calls.regrown_of (GsL8Code.C ((PRate.Rate.mk c11 d11 e11 g11 a11))  _    d13); replace H := let_hid H; obtain ⟨t_31, f14, H⟩ := H; replace H := app_hid H; replace H := app_hid H; refine wp_region_quiet_below (by kernel_rfl) (by kernel_rfl) ?_
       repeat (go_big_quiet_step (first | (go_at_call 152; with_reducible exact h11 _ _) | (go_at_call 152; with_reducible exact i11 _ _) | (go_at_call 151; exact y10 _ _) | (go_at_call 152; exact h11 _ _) | (go_at_call 152; exact i11 _ _)))
       refine wpQuiet_nil ?_; intro Y4 hY4; replace hY4 := below_class hY4; clear y10 h11 i11; replace a10 := k10.out; clear k10; replace e10 := l10.out; clear l10; replace c10 := o10.out; clear o10; replace d10 := m10.out; clear m10; replace b10 := n10.out; clear n10; replace f10 := s10.out; clear s10; replace h10 := v10.out; clear v10; replace j10 := t10.out; clear t10; replace i10 := w10.out; clear w10; replace g10 := r10.out; clear r10; have HBY4 := Lib.hid (Below.step p10.out hY4); replace a10 := cell_below hY4 a10; replace e10 := cell_below hY4 e10; replace c10 := cell_below hY4 c10; replace d10 := cell_below hY4 d10; replace b10 := cell_below hY4 b10; replace f10 := cell_below hY4 f10; replace h10 := cell_below hY4 h10; replace j10 := cell_below hY4 j10; replace i10 := cell_below hY4 i10; replace g10 := cell_below hY4 g10; clear hY4
       cases t_31 with
       | false =>
        replace H := ite_f H; go_wp2_with fail; have k10 := Lib.hid a10; replace a10 := cell_regrown a10; have l10 := Lib.hid e10; replace e10 := cell_regrown e10; have o10 := Lib.hid c10; replace c10 := cell_regrown c10; have m10 := Lib.hid d10; replace d10 := cell_regrown d10; have n10 := Lib.hid b10; replace b10 := cell_regrown b10; have s10 := Lib.hid f10; replace f10 := cell_regrown f10; have v10 := Lib.hid h10; replace h10 := cell_regrown h10; have t10 := Lib.hid j10; replace j10 := cell_regrown j10; have w10 := Lib.hid i10; replace i10 := cell_regrown i10; have r10 := Lib.hid g10; replace g10 := cell_regrown g10; replace H := let_hid H; obtain ⟨t_36, j11, H⟩ := H; obtain rfl := f11.symm.trans j11; replace H := join_hid H; replace H := ite_t H; replace H := let_hid H; obtain ⟨t_40, s12, H⟩ := H; obtain rfl := n11.symm.trans s12; replace H := idx_hid H; obtain ⟨k13, v13, y12, p12, b12, H⟩ := H; obtain rfl : x10 = k13 := (by omega); clear y12; obtain rfl := Option.some.inj (b11.out.symm.trans b12.out); clear b12 p12; replace H := unRate_hid H; replace H := idx_hid H; obtain ⟨a13, p14, n13, g13, x11, H⟩ := H; obtain rfl : q10 = a13 := (by omega); clear n13; obtain rfl := Option.some.inj (z10.out.symm.trans x11.out); clear x11 g13; replace H := unRate_hid H; replace H := let_hid H; obtain ⟨t_49, s13, H⟩ := H; replace H := app_hid H; replace H := join_hid H
        cases t_49 with
        | false =>
         replace H := ite_f H; replace H := app_hid H; replace H := join_hid H; replace H := ite_f H; replace H := app_hid H; refine wp_region_quiet_below (by kernel_rfl) (by kernel_rfl) ?_
         repeat (go_big_quiet_step (fail))
         refine wpQuiet_nil ?_; intro Y6 hY6; replace hY6 := below_class hY6; replace a10 := k10.out; clear k10; replace e10 := l10.out; clear l10; replace c10 := o10.out; clear o10; replace d10 := m10.out; clear m10; replace b10 := n10.out; clear n10; replace f10 := s10.out; clear s10; replace h10 := v10.out; clear v10; replace j10 := t10.out; clear t10; replace i10 := w10.out; clear w10; replace g10 := r10.out; clear r10; have HBY6 := Lib.hid (Below.step HBY4.out hY6); replace a10 := cell_below hY6 a10; replace e10 := cell_below hY6 e10; replace c10 := cell_below hY6 c10; replace d10 := cell_below hY6 d10; replace b10 := cell_below hY6 b10; replace f10 := cell_below hY6 f10; replace h10 := cell_below hY6 h10; replace j10 := cell_below hY6 j10; replace i10 := cell_below hY6 i10; replace g10 := cell_below hY6 g10; clear hY6; replace H := ite_f H; replace H := let_hid H; obtain ⟨t_81, m11, H⟩ := H; replace H := app_hid H; go_wp2_with fail
         go_roundg m0
         case measure => omega
         case rel => exact ⟨_, rfl, H, HBY6⟩
        | true =>
         replace H := ite_t H; replace H := let_hid H; obtain ⟨t_54, q12, H⟩ := H; obtain rfl := n11.symm.trans q12; replace H := idx_hid H; obtain ⟨j12, l14, t12, b13, s11, H⟩ := H; obtain rfl : x10 = j12 := (by omega); clear t12; obtain rfl := Option.some.inj (b11.out.symm.trans s11.out); clear s11 b13; replace H := unRate_hid H; replace H := idx_hid H; obtain ⟨f12, k14, o13, c13, c12, H⟩ := H; obtain rfl : q10 = f12 := (by omega); clear o13; obtain rfl := Option.some.inj (z10.out.symm.trans c12.out); clear c12 c13; replace H := unRate_hid H; replace H := let_hid H; obtain ⟨t_63, t13, H⟩ := H; replace H := app_hid H; replace H := join_hid H
         cases t_63 with
         | false =>
          replace H := ite_f H; replace H := app_hid H; refine wp_region_quiet_below (by kernel_rfl) (by kernel_rfl) ?_
          repeat (go_big_quiet_step (fail))
          refine wpQuiet_nil ?_; intro Y6 hY6; replace hY6 := below_class hY6; replace a10 := k10.out; clear k10; replace e10 := l10.out; clear l10; replace c10 := o10.out; clear o10; replace d10 := m10.out; clear m10; replace b10 := n10.out; clear n10; replace f10 := s10.out; clear s10; replace h10 := v10.out; clear v10; replace j10 := t10.out; clear t10; replace i10 := w10.out; clear w10; replace g10 := r10.out; clear r10; have HBY6 := Lib.hid (Below.step HBY4.out hY6); replace a10 := cell_below hY6 a10; replace e10 := cell_below hY6 e10; replace c10 := cell_below hY6 c10; replace d10 := cell_below hY6 d10; replace b10 := cell_below hY6 b10; replace f10 := cell_below hY6 f10; replace h10 := cell_below hY6 h10; replace j10 := cell_below hY6 j10; replace i10 := cell_below hY6 i10; replace g10 := cell_below hY6 g10; clear hY6; replace H := ite_f H; replace H := let_hid H; obtain ⟨t_81, m11, H⟩ := H; replace H := app_hid H; go_wp2_with fail
          go_roundg m0
          case measure => omega
          case rel => exact ⟨_, rfl, H, HBY6⟩
         | true =>
          replace H := ite_t H; replace H := let_hid H; obtain ⟨t_68, l13, H⟩ := H; obtain rfl := n11.symm.trans l13; replace H := idx_hid H; obtain ⟨h12, i14, e12, h13, p11, H⟩ := H; obtain rfl : x10 = h12 := (by omega); clear e12; obtain rfl := Option.some.inj (b11.out.symm.trans p11.out); clear p11 h13; replace H := unRate_hid H; replace H := idx_hid H; obtain ⟨i13, n14, x12, o12, d12, H⟩ := H; obtain rfl : q10 = i13 := (by omega); clear x12; obtain rfl := Option.some.inj (z10.out.symm.trans d12.out); clear d12 o12; replace H := unRate_hid H; replace H := let_hid H; obtain ⟨t_77, e14, H⟩ := H; replace H := app_hid H; refine wp_region_quiet_below (by kernel_rfl) (by kernel_rfl) ?_
          repeat (go_big_quiet_step (fail))
          refine wpQuiet_nil ?_; intro Y6 hY6; replace hY6 := below_class hY6; replace a10 := k10.out; clear k10; replace e10 := l10.out; clear l10; replace c10 := o10.out; clear o10; replace d10 := m10.out; clear m10; replace b10 := n10.out; clear n10; replace f10 := s10.out; clear s10; replace h10 := v10.out; clear v10; replace j10 := t10.out; clear t10; replace i10 := w10.out; clear w10; replace g10 := r10.out; clear r10; have HBY6 := Lib.hid (Below.step HBY4.out hY6); replace a10 := cell_below hY6 a10; replace e10 := cell_below hY6 e10; replace c10 := cell_below hY6 c10; replace d10 := cell_below hY6 d10; replace b10 := cell_below hY6 b10; replace f10 := cell_below hY6 f10; replace h10 := cell_below hY6 h10; replace j10 := cell_below hY6 j10; replace i10 := cell_below hY6 i10; replace g10 := cell_below hY6 g10; clear hY6
          cases t_77 with
          | false =>
           replace H := ite_f H; replace H := let_hid H; obtain ⟨t_81, m11, H⟩ := H; replace H := app_hid H; go_wp2_with fail
           go_roundg m0
           case measure => omega
           case rel => exact ⟨_, rfl, H, HBY6⟩
          | true =>
           replace H := ite_t H; obtain rfl := ret_hid H; go_wp2_with fail; go_ret; exact ⟨rfl, HBY6.out⟩
       | true =>
        replace H := ite_t H; obtain rfl := ret_hid H; go_wp2_with fail; go_ret; exact ⟨rfl, HBY4.out⟩
end Go.Proofs.Ytihibckijdfidaa.GsL8Good

namespace Go.Proofs.Ytihibckijdfidaa.GsL9Office
open Go.RowKit
open Go.Proofs.Ytihibckijdfidaa.Rowed Go.Proofs.Ytihibckijdfidaa.Turn Go.Proofs.Ytihibckijdfidaa.Aid Go.Proofs.Ytihibckijdfidaa.GoP Go.Proofs.Ytihibckijdfidaa.GoM

def P (n_0 : Int) : Option (Bool) :=
  Option.bind (Go.Proofs.Ytihibckijdfidaa.GsL1In.P n_0 0 9) fun (t_2 : Bool) =>
  some t_2

set_option maxRecDepth 100000 in
set_option maxHeartbeats 2000000 in
theorem C (n_0 : Int)   (w : World)   {r : Bool} (H : Hid (P n_0 = some r)) :
    Calls Try.prog 157 #[.int .i64 n_0] w (Gives (.bool r) w) := by
  have HB := Lib.hid (Below.refl w.heap.size w)
  unfold P at H
  go_enter Try.func157, Try.ntmps157
  replace H := bind_hid H
  obtain ⟨t_2, qt_2, H⟩ := H
  go_wp2_with fail
  go_at_call 87
  refine (Go.Proofs.Ytihibckijdfidaa.GsL1In.C (n_0) (0) (9)  _    qt_2).mono ?_
  rintro e_t_2 wt_2 ⟨rfl, bt_2⟩
  have HBwt_2 := Lib.hid (Below.step HB.out bt_2)
  clear bt_2
  obtain rfl := ret_hid H
  go_wp2_with fail
  go_ret
  exact ⟨rfl, HBwt_2.out⟩
end Go.Proofs.Ytihibckijdfidaa.GsL9Office

namespace Go.Proofs.Ytihibckijdfidaa.GsL9Minute
open Go.RowKit
open Go.Proofs.Ytihibckijdfidaa.Rowed Go.Proofs.Ytihibckijdfidaa.Turn Go.Proofs.Ytihibckijdfidaa.Aid Go.Proofs.Ytihibckijdfidaa.GoP Go.Proofs.Ytihibckijdfidaa.GoM

def P (n_0 : Int) : Option (Bool) :=
  Option.bind (Go.Proofs.Ytihibckijdfidaa.GsL1In.P n_0 0 9999) fun (t_2 : Bool) =>
  some t_2

set_option maxRecDepth 100000 in
set_option maxHeartbeats 2000000 in
theorem C (n_0 : Int)   (w : World)   {r : Bool} (H : Hid (P n_0 = some r)) :
    Calls Try.prog 158 #[.int .i64 n_0] w (Gives (.bool r) w) := by
  have HB := Lib.hid (Below.refl w.heap.size w)
  unfold P at H
  go_enter Try.func158, Try.ntmps158
  replace H := bind_hid H
  obtain ⟨t_2, qt_2, H⟩ := H
  go_wp2_with fail
  go_at_call 87
  refine (Go.Proofs.Ytihibckijdfidaa.GsL1In.C (n_0) (0) (9999)  _    qt_2).mono ?_
  rintro e_t_2 wt_2 ⟨rfl, bt_2⟩
  have HBwt_2 := Lib.hid (Below.step HB.out bt_2)
  clear bt_2
  obtain rfl := ret_hid H
  go_wp2_with fail
  go_ret
  exact ⟨rfl, HBwt_2.out⟩
end Go.Proofs.Ytihibckijdfidaa.GsL9Minute

namespace Go.Proofs.Ytihibckijdfidaa.GsL10One
open Go.RowKit
open Go.Proofs.Ytihibckijdfidaa.Rowed Go.Proofs.Ytihibckijdfidaa.Turn Go.Proofs.Ytihibckijdfidaa.Aid Go.Proofs.Ytihibckijdfidaa.GoP Go.Proofs.Ytihibckijdfidaa.GoM

def P (x : PCover.Cover) : Option (Bool) :=
 unCover x fun (x_id : Int) (x_day : Int) (x_zone : Int) (x_grams : Int) (x_paid : Int) (x_from_ : Int) (x_to_ : Int) (x_leave : Int) (x_arrive : Int) =>
 Option.bind (GsL1In.P x_id 1 999) fun (t_4 : Bool) =>
 letK (!t_4) fun (t_5 : Bool) =>
 joinK (fun (t_11 : Bool) =>
 joinK (fun (t_17 : Bool) =>
 joinK (fun (t_23 : Bool) =>
 joinK (fun (t_29 : Bool) =>
 iteK t_29
 (some false)
 (Option.bind (GsL9Office.P x_from_) fun (t_33 : Bool) =>
 joinK (fun (t_38 : Bool) =>
 joinK (fun (t_45 : Bool) =>
 joinK (fun (t_50 : Bool) =>
 joinK (fun (t_57 : Bool) =>
 some t_57) fun jt_57 => iteK t_50 (Option.bind (GsL1In.P x_leave 0 x_arrive) fun (t_56 : Bool) =>
 appK jt_57 t_56) (appK jt_57 false)) fun jt_50 => iteK t_45 (Option.bind (GsL9Minute.P x_arrive) fun (t_49 : Bool) =>
 appK jt_50 t_49) (appK jt_50 false)) fun jt_45 => iteK t_38 (letK (x_from_ != x_to_) fun (t_44 : Bool) =>
 appK jt_45 t_44) (appK jt_45 false)) fun jt_38 => iteK t_33 (Option.bind (GsL9Office.P x_to_) fun (t_37 : Bool) =>
 appK jt_38 t_37) (appK jt_38 false))) fun jt_29 => iteK t_23 (appK jt_29 true) (Option.bind (GsL8Cents.P x_paid) fun (t_27 : Bool) =>
 letK (!t_27) fun (t_28 : Bool) =>
 appK jt_29 t_28)) fun jt_23 => iteK t_17 (appK jt_23 true) (Option.bind (GsL8Grams.P x_grams) fun (t_21 : Bool) =>
 letK (!t_21) fun (t_22 : Bool) =>
 appK jt_23 t_22)) fun jt_17 => iteK t_11 (appK jt_17 true) (Option.bind (GsL8Zone.P x_zone) fun (t_15 : Bool) =>
 letK (!t_15) fun (t_16 : Bool) =>
 appK jt_17 t_16)) fun jt_11 => iteK t_5 (appK jt_11 true) (Option.bind (GsL2Day.P x_day) fun (t_9 : Bool) =>
 letK (!t_9) fun (t_10 : Bool) =>
 appK jt_11 t_10)

set_option maxRecDepth 100000 in
set_option maxHeartbeats 2000000 in
theorem C (x : PCover.Cover)   (w : World)   {r : Bool} (H : Hid (P x = some r)) :
  Calls Try.prog 81 #[x.val] w (Gives (.bool r) w) := by
 have HB := Lib.hid (Below.refl w.heap.size w); unfold P at H; obtain ⟨x_id, x_day, x_zone, x_grams, x_paid, x_from_, x_to_, x_leave, x_arrive⟩ := x; replace H := unCover_hid H; unfold PCover.Cover.val
 go_enter Try.func81, Try.ntmps81
 obtain ⟨q10, r10⟩ : ∃ x, w.alloc (.cells #[.int .i64 x_id, .int .i64 x_day, .int .i64 x_zone, .int .i64 x_grams, .int .i64 x_paid, .int .i64 x_from_, .int .i64 x_to_, .int .i64 x_leave, .int .i64 x_arrive] 30) = x := ⟨_, rfl⟩; have a11 : Below w.heap.size w q10 := (by rw [← r10]; exact (Below.refl _ _).alloc (Nat.le_refl _) _); have m11 := Lib.hid (Below.step HB.out a11); clear a11; have g10 : q10.cell? ⟨w.heap.size, 0, none⟩ = some (.int .i64 x_id) := (by rw [← r10]; exact box_new _ _ _ 0 _ rfl); have i10 : q10.cell? ⟨w.heap.size, 1, none⟩ = some (.int .i64 x_day) := (by rw [← r10]; exact box_new _ _ _ 1 _ rfl); have c10 : q10.cell? ⟨w.heap.size, 2, none⟩ = some (.int .i64 x_zone) := (by rw [← r10]; exact box_new _ _ _ 2 _ rfl); have d10 : q10.cell? ⟨w.heap.size, 3, none⟩ = some (.int .i64 x_grams) := (by rw [← r10]; exact box_new _ _ _ 3 _ rfl); have a10 : q10.cell? ⟨w.heap.size, 4, none⟩ = some (.int .i64 x_paid) := (by rw [← r10]; exact box_new _ _ _ 4 _ rfl); have f10 : q10.cell? ⟨w.heap.size, 5, none⟩ = some (.int .i64 x_from_) := (by rw [← r10]; exact box_new _ _ _ 5 _ rfl); have e10 : q10.cell? ⟨w.heap.size, 6, none⟩ = some (.int .i64 x_to_) := (by rw [← r10]; exact box_new _ _ _ 6 _ rfl); have h10 : q10.cell? ⟨w.heap.size, 7, none⟩ = some (.int .i64 x_leave) := (by rw [← r10]; exact box_new _ _ _ 7 _ rfl); have b10 : q10.cell? ⟨w.heap.size, 8, none⟩ = some (.int .i64 x_arrive) := (by rw [← r10]; exact box_new _ _ _ 8 _ rfl); replace H := bind_hid H; obtain ⟨t_4, qt_4, H⟩ := H; go_wp2_with fail; go_at_call 87; refine (GsL1In.C (x_id) (1) (999)  _    qt_4).mono ?_; rintro c12 wt_4 ⟨rfl, bt_4⟩; have y10 := Lib.hid (Below.step m11.out bt_4); replace g10 := cell_below bt_4 g10; replace i10 := cell_below bt_4 i10; replace c10 := cell_below bt_4 c10; replace d10 := cell_below bt_4 d10; replace a10 := cell_below bt_4 a10; replace f10 := cell_below bt_4 f10; replace e10 := cell_below bt_4 e10; replace h10 := cell_below bt_4 h10; replace b10 := cell_below bt_4 b10; clear bt_4
 cases t_4 with
 | false =>
  replace H := let_hid H; obtain ⟨t_5, ht_5, H⟩ := H; obtain rfl : t_5 = true := ht_5.symm; replace H := join_hid H; replace H := ite_t H; replace H := app_hid H; replace H := join_hid H; replace H := ite_t H; replace H := app_hid H; replace H := join_hid H; replace H := ite_t H; replace H := app_hid H; replace H := join_hid H; replace H := ite_t H; replace H := app_hid H; replace H := ite_t H; obtain rfl := ret_hid H; go_wp2_with fail; go_ret; exact ⟨rfl, y10.out⟩
 | true =>
  replace H := let_hid H; obtain ⟨t_5, ht_5, H⟩ := H; obtain rfl : t_5 = false := ht_5.symm; replace H := join_hid H; replace H := ite_f H; replace H := bind_hid H; obtain ⟨t_9, qt_9, H⟩ := H; go_wp2_with fail; go_at_call 153; refine (GsL2Day.C (x_day)  _    qt_9).mono ?_; rintro s11 wt_9 ⟨rfl, bt_9⟩; have d11 := Lib.hid (Below.step y10.out bt_9); replace g10 := cell_below bt_9 g10; replace i10 := cell_below bt_9 i10; replace c10 := cell_below bt_9 c10; replace d10 := cell_below bt_9 d10; replace a10 := cell_below bt_9 a10; replace f10 := cell_below bt_9 f10; replace e10 := cell_below bt_9 e10; replace h10 := cell_below bt_9 h10; replace b10 := cell_below bt_9 b10; clear bt_9
  cases t_9 with
  | false =>
   replace H := let_hid H; obtain ⟨t_10, w10, H⟩ := H; obtain rfl : t_10 = true := w10.symm; replace H := app_hid H; replace H := join_hid H; replace H := ite_t H; replace H := app_hid H; replace H := join_hid H; replace H := ite_t H; replace H := app_hid H; replace H := join_hid H; replace H := ite_t H; replace H := app_hid H; replace H := ite_t H; obtain rfl := ret_hid H; go_wp2_with fail; go_ret; exact ⟨rfl, d11.out⟩
  | true =>
   replace H := let_hid H; obtain ⟨t_10, w10, H⟩ := H; obtain rfl : t_10 = false := w10.symm; replace H := app_hid H; replace H := join_hid H; replace H := ite_f H; replace H := bind_hid H; obtain ⟨t_15, g11, H⟩ := H; go_wp2_with fail; go_at_call 154; refine (GsL8Zone.C (x_zone)  _    g11).mono ?_; rintro d12 r11 ⟨rfl, m10⟩; have f11 := Lib.hid (Below.step d11.out m10); replace g10 := cell_below m10 g10; replace i10 := cell_below m10 i10; replace c10 := cell_below m10 c10; replace d10 := cell_below m10 d10; replace a10 := cell_below m10 a10; replace f10 := cell_below m10 f10; replace e10 := cell_below m10 e10; replace h10 := cell_below m10 h10; replace b10 := cell_below m10 b10; clear m10
   cases t_15 with
   | false =>
    replace H := let_hid H; obtain ⟨t_16, x10, H⟩ := H; obtain rfl : t_16 = true := x10.symm; replace H := app_hid H; replace H := join_hid H; replace H := ite_t H; replace H := app_hid H; replace H := join_hid H; replace H := ite_t H; replace H := app_hid H; replace H := ite_t H; obtain rfl := ret_hid H; go_wp2_with fail; go_ret; exact ⟨rfl, f11.out⟩
   | true =>
    replace H := let_hid H; obtain ⟨t_16, x10, H⟩ := H; obtain rfl : t_16 = false := x10.symm; replace H := app_hid H; replace H := join_hid H; replace H := ite_f H; replace H := bind_hid H; obtain ⟨t_21, o11, H⟩ := H; go_wp2_with fail; go_at_call 155; refine (GsL8Grams.C (x_grams)  _    o11).mono ?_; rintro v11 y11 ⟨rfl, j10⟩; have e11 := Lib.hid (Below.step f11.out j10); replace g10 := cell_below j10 g10; replace i10 := cell_below j10 i10; replace c10 := cell_below j10 c10; replace d10 := cell_below j10 d10; replace a10 := cell_below j10 a10; replace f10 := cell_below j10 f10; replace e10 := cell_below j10 e10; replace h10 := cell_below j10 h10; replace b10 := cell_below j10 b10; clear j10
    cases t_21 with
    | false =>
     replace H := let_hid H; obtain ⟨t_22, s10, H⟩ := H; obtain rfl : t_22 = true := s10.symm; replace H := app_hid H; replace H := join_hid H; replace H := ite_t H; replace H := app_hid H; replace H := ite_t H; obtain rfl := ret_hid H; go_wp2_with fail; go_ret; exact ⟨rfl, e11.out⟩
    | true =>
     replace H := let_hid H; obtain ⟨t_22, s10, H⟩ := H; obtain rfl : t_22 = false := s10.symm; replace H := app_hid H; replace H := join_hid H; replace H := ite_f H; replace H := bind_hid H; obtain ⟨t_27, n11, H⟩ := H; go_wp2_with fail; go_at_call 156; refine (GsL8Cents.C (x_paid)  _    n11).mono ?_; rintro q11 f12 ⟨rfl, k10⟩; have z10 := Lib.hid (Below.step e11.out k10); replace g10 := cell_below k10 g10; replace i10 := cell_below k10 i10; replace c10 := cell_below k10 c10; replace d10 := cell_below k10 d10; replace a10 := cell_below k10 a10; replace f10 := cell_below k10 f10; replace e10 := cell_below k10 e10; replace h10 := cell_below k10 h10; replace b10 := cell_below k10 b10; clear k10
     cases t_27 with
     | false =>
      replace H := let_hid H; obtain ⟨t_28, t10, H⟩ := H; obtain rfl : t_28 = true := t10.symm; replace H := app_hid H; replace H := ite_t H; obtain rfl := ret_hid H; go_wp2_with fail; go_ret; exact ⟨rfl, z10.out⟩
     | true =>
      replace H := let_hid H; obtain ⟨t_28, t10, H⟩ := H; obtain rfl : t_28 = false := t10.symm; replace H := app_hid H; replace H := ite_f H; replace H := bind_hid H; obtain ⟨t_33, h11, H⟩ := H; go_wp2_with fail; go_at_call 157; refine (GsL9Office.C (x_from_)  _    h11).mono ?_; rintro w11 z11 ⟨rfl, l10⟩; have c11 := Lib.hid (Below.step z10.out l10); replace g10 := cell_below l10 g10; replace i10 := cell_below l10 i10; replace c10 := cell_below l10 c10; replace d10 := cell_below l10 d10; replace a10 := cell_below l10 a10; replace f10 := cell_below l10 f10; replace e10 := cell_below l10 e10; replace h10 := cell_below l10 h10; replace b10 := cell_below l10 b10; clear l10; replace H := join_hid H
      cases t_33 with
      | false =>
       replace H := ite_f H; replace H := app_hid H; replace H := join_hid H; replace H := ite_f H; replace H := app_hid H; replace H := join_hid H; replace H := ite_f H; replace H := app_hid H; replace H := join_hid H; replace H := ite_f H; replace H := app_hid H; obtain rfl := ret_hid H; go_wp2_with fail; go_ret; exact ⟨rfl, c11.out⟩
      | true =>
       replace H := ite_t H; replace H := bind_hid H; obtain ⟨t_37, l11, H⟩ := H; go_wp2_with fail; go_at_call 157; refine (GsL9Office.C (x_to_)  _    l11).mono ?_; rintro a12 p11 ⟨rfl, n10⟩; have v10 := Lib.hid (Below.step c11.out n10); replace g10 := cell_below n10 g10; replace i10 := cell_below n10 i10; replace c10 := cell_below n10 c10; replace d10 := cell_below n10 d10; replace a10 := cell_below n10 a10; replace f10 := cell_below n10 f10; replace e10 := cell_below n10 e10; replace h10 := cell_below n10 h10; replace b10 := cell_below n10 b10; clear n10; replace H := app_hid H; replace H := join_hid H
       cases t_37 with
       | false =>
        replace H := ite_f H; replace H := app_hid H; replace H := join_hid H; replace H := ite_f H; replace H := app_hid H; replace H := join_hid H; replace H := ite_f H; replace H := app_hid H; obtain rfl := ret_hid H; go_wp2_with fail; go_ret; exact ⟨rfl, v10.out⟩
       | true =>
        replace H := ite_t H; replace H := let_hid H; obtain ⟨t_44, t11, H⟩ := H; replace H := app_hid H; replace H := join_hid H
        cases t_44 with
        | false =>
         replace H := ite_f H; replace H := app_hid H; replace H := join_hid H; replace H := ite_f H; replace H := app_hid H; obtain rfl := ret_hid H; go_wp2_with fail; go_ret; exact ⟨rfl, v10.out⟩
        | true =>
         replace H := ite_t H; replace H := bind_hid H; obtain ⟨t_49, k11, H⟩ := H; go_wp2_with fail; go_at_call 158; refine (GsL9Minute.C (x_arrive)  _    k11).mono ?_; rintro b12 g12 ⟨rfl, o10⟩; have b11 := Lib.hid (Below.step v10.out o10); replace g10 := cell_below o10 g10; replace i10 := cell_below o10 i10; replace c10 := cell_below o10 c10; replace d10 := cell_below o10 d10; replace a10 := cell_below o10 a10; replace f10 := cell_below o10 f10; replace e10 := cell_below o10 e10; replace h10 := cell_below o10 h10; replace b10 := cell_below o10 b10; clear o10; replace H := app_hid H; replace H := join_hid H
         cases t_49 with
         | false =>
          replace H := ite_f H; replace H := app_hid H; obtain rfl := ret_hid H; go_wp2_with fail; go_ret; exact ⟨rfl, b11.out⟩
         | true =>
          replace H := ite_t H; replace H := bind_hid H; obtain ⟨t_56, i11, H⟩ := H; go_wp2_with fail; go_at_call 87; refine (GsL1In.C (x_leave) (0) (x_arrive)  _    i11).mono ?_; rintro x11 e12 ⟨rfl, p10⟩; have j11 := Lib.hid (Below.step b11.out p10); replace g10 := cell_below p10 g10; replace i10 := cell_below p10 i10; replace c10 := cell_below p10 c10; replace d10 := cell_below p10 d10; replace a10 := cell_below p10 a10; replace f10 := cell_below p10 f10; replace e10 := cell_below p10 e10; replace h10 := cell_below p10 h10; replace b10 := cell_below p10 b10; clear p10; replace H := app_hid H; obtain rfl := ret_hid H; go_wp2_with fail; go_ret; exact ⟨rfl, j11.out⟩
end Go.Proofs.Ytihibckijdfidaa.GsL10One

namespace Go.Proofs.Ytihibckijdfidaa.GsL8For
open Go.RowKit
open Go.Proofs.Ytihibckijdfidaa.Rowed Go.Proofs.Ytihibckijdfidaa.Turn Go.Proofs.Ytihibckijdfidaa.Aid Go.Proofs.Ytihibckijdfidaa.GoP Go.Proofs.Ytihibckijdfidaa.GoM

def l0 (list : (List PRate.Rate)) (day : Int) (zone : Int) (grams : Int) (k0 : Nat) (s : Unit) (nx0 bk0 : Unit → Option (Int)) : Option (Int) :=
 
 Option.bind (idx list (k0 : Int)) fun (yt_8 : PRate.Rate) =>
 unRate yt_8 fun (t_8_zone : Int) (t_8_grams : Int) (t_8_from_ : Int) (t_8_until_ : Int) (t_8_cents : Int) =>
 letK (t_8_zone == zone) fun (t_15 : Bool) =>
 joinK (fun (t_21 : Bool) =>
 joinK (fun (t_29 : Bool) =>
 iteK t_29
 (some t_8_cents)
 (appK nx0 ())) fun jt_29 => iteK t_21 (Option.bind (GsL1In.P day t_8_from_ t_8_until_) fun (t_28 : Bool) =>
 appK jt_29 t_28) (appK jt_29 false)) fun jt_21 => iteK t_15 (letK (decide (grams ≤ t_8_grams)) fun (t_20 : Bool) =>
 appK jt_21 t_20) (appK jt_21 false)

def e0  (s : Unit) : Option (Int) :=
 
 some 0

def P (list : (List PRate.Rate)) (day : Int) (zone : Int) (grams : Int) : Option (Int) :=
 cntK (l0 list day zone grams) (list.length) 0 () (e0 )

set_option maxRecDepth 100000 in
set_option maxHeartbeats 2000000 in
theorem C (list : (List PRate.Rate)) (day : Int) (zone : Int) (grams : Int) (A0 : Option Addr) (c0 : Nat)  (w : World) (M0 : Hid (Cells w 5 A0 list.length (PRate.flat list))) (N0 : Hid (list.length ≤ 9223372036854775807))  {r : Int} (H : Hid (P list day zone grams = some r)) :
  Calls Try.prog 159 #[.slice A0 list.length c0, .int .i64 day, .int .i64 zone, .int .i64 grams] w (Gives (.int .i64 r) w) := by
 have HB := Lib.hid (Below.refl w.heap.size w); unfold P at H; have N0o := N0.out
 go_enter Try.func159, Try.ntmps159
 go_wp2_with fail; go_loopg [9] (list.length) (fun m_ v9_ wr => ∃ (k0 : Nat) , k0 + m_ = list.length ∧ v9_ = .int .i64 (k0 : Int) ∧ Hid (cntK (l0 list day zone grams) m_ k0 () (e0 ) = some r) ∧ Hid (Below w.heap.size w wr))
 case atStart => exact ⟨0, by omega, rfl, H, HB⟩
 case round =>
  obtain ⟨k0, hkm0, rfl, H, c10⟩ := hrel; rename World => wr0
  cases gk with
  | zero =>
   obtain rfl : k0 = list.length := (by omega); have hc0 : decide (((list.length : Nat) : Int) < ((list.length : Nat) : Int)) = false := (by simp); replace H := cnt_zero H; unfold e0 at H; obtain rfl := ret_hid H; go_wp2_with fail; go_ret; exact ⟨rfl, c10.out⟩
  | succ m0 =>
   have hlt0 : k0 < list.length := (by omega); have hc0 : decide ((k0 : Int) < ((list.length : Nat) : Int)) = true := (by simp; omega); replace H := cnt_succ H; unfold l0 at H; replace H := idx_hid H; obtain ⟨nt_8, yt_8, et_8, lt_8, gt_8, H⟩ := H; obtain rfl : k0 = nt_8 := (by omega); clear et_8; obtain ⟨p10, o10, k10, l10, v10⟩ := yt_8; replace H := unRate_hid H; obtain ⟨n11, m11, zt_8, At_8, b11, b10, f10, i10, h10, j10⟩ := ORate.at_ M0.out lt_8; obtain rfl := Option.some.inj (gt_8.out.symm.trans b11); subst At_8; have i11 := cell_lt b10; replace b10 := cell_below c10.out b10; replace f10 := cell_below c10.out f10; replace i10 := cell_below c10.out i10; replace h10 := cell_below c10.out h10; replace j10 := cell_below c10.out j10; clear b11; have f11 : (0 : Int) ≤ (k0 : Int) := (by omega); have l11 : (k0 : Int) < ((list.length : Nat) : Int) := (by omega); have j11 : ((k0 : Int)).toNat = k0 := (by omega); obtain ⟨e10, g10⟩ : ∃ x, wr0.alloc (.cells #[.int .i64 p10, .int .i64 o10, .int .i64 k10, .int .i64 l10, .int .i64 v10] 120) = x := ⟨_, rfl⟩; have d10 : Below wr0.heap.size wr0 e10 := (by rw [← g10]; exact (Below.refl _ _).alloc (Nat.le_refl _) _); have m10 := Lib.hid (Below.step c10.out d10); have c11 := cell_below d10 b10; have y10 := cell_below d10 f10; have a11 := cell_below d10 i10; have r10 := cell_below d10 h10; have w10 := cell_below d10 j10; clear d10; have t10 : e10.cell? ⟨wr0.heap.size, 0, none⟩ = some (.int .i64 p10) := (by rw [← g10]; exact box_new _ _ _ 0 _ rfl); have n10 : e10.cell? ⟨wr0.heap.size, 1, none⟩ = some (.int .i64 o10) := (by rw [← g10]; exact box_new _ _ _ 1 _ rfl); have z10 : e10.cell? ⟨wr0.heap.size, 2, none⟩ = some (.int .i64 k10) := (by rw [← g10]; exact box_new _ _ _ 2 _ rfl); have s10 : e10.cell? ⟨wr0.heap.size, 3, none⟩ = some (.int .i64 l10) := (by rw [← g10]; exact box_new _ _ _ 3 _ rfl); have q10 : e10.cell? ⟨wr0.heap.size, 4, none⟩ = some (.int .i64 v10) := (by rw [← g10]; exact box_new _ _ _ 4 _ rfl); replace H := let_hid H; obtain ⟨t_15, k11, H⟩ := H; replace H := join_hid H
   cases t_15 with
   | false =>
    replace H := ite_f H; replace H := app_hid H; replace H := join_hid H; replace H := ite_f H; replace H := app_hid H; replace H := ite_f H; replace H := app_hid H; go_wp2_with fail; clear b10 f10 i10 h10 j10
    go_roundg m0
    case measure => omega
    case rel => exact ⟨k0 + 1, by omega, by go_num, H, m10⟩
   | true =>
    replace H := ite_t H; replace H := let_hid H; obtain ⟨t_20, e11, H⟩ := H; replace H := app_hid H; replace H := join_hid H
    cases t_20 with
    | false =>
     replace H := ite_f H; replace H := app_hid H; replace H := ite_f H; replace H := app_hid H; go_wp2_with fail; clear b10 f10 i10 h10 j10
     go_roundg m0
     case measure => omega
     case rel => exact ⟨k0 + 1, by omega, by go_num, H, m10⟩
    | true =>
     replace H := ite_t H; replace H := bind_hid H; obtain ⟨t_28, d11, H⟩ := H; go_wp2_with fail; clear b10 f10 i10 h10 j10; go_at_call 87; refine (GsL1In.C (day) (k10) (l10)  _    d11).mono ?_; rintro h11 g11 ⟨rfl, a10⟩; have x10 := Lib.hid (Below.step m10.out a10); replace c11 := cell_below a10 c11; replace y10 := cell_below a10 y10; replace a11 := cell_below a10 a11; replace r10 := cell_below a10 r10; replace w10 := cell_below a10 w10; replace t10 := cell_below a10 t10; replace n10 := cell_below a10 n10; replace z10 := cell_below a10 z10; replace s10 := cell_below a10 s10; replace q10 := cell_below a10 q10; clear a10; replace H := app_hid H
     cases t_28 with
     | false =>
      replace H := ite_f H; replace H := app_hid H; go_wp2_with fail
      go_roundg m0
      case measure => omega
      case rel => exact ⟨k0 + 1, by omega, by go_num, H, x10⟩
     | true =>
      replace H := ite_t H; obtain rfl := ret_hid H; go_wp2_with fail; go_ret; exact ⟨rfl, x10.out⟩
end Go.Proofs.Ytihibckijdfidaa.GsL8For

namespace Go.Proofs.Ytihibckijdfidaa.GsL12Explained
open Go.RowKit
open Go.Proofs.Ytihibckijdfidaa.Rowed Go.Proofs.Ytihibckijdfidaa.Turn Go.Proofs.Ytihibckijdfidaa.Aid Go.Proofs.Ytihibckijdfidaa.GoP Go.Proofs.Ytihibckijdfidaa.GoM

def P (rates : (List PRate.Rate)) (x : PCover.Cover) : Option (Bool) :=
 unCover x fun (x_id : Int) (x_day : Int) (x_zone : Int) (x_grams : Int) (x_paid : Int) (x_from_ : Int) (x_to_ : Int) (x_leave : Int) (x_arrive : Int) =>
 Option.bind (GsL8For.P rates x_day x_zone x_grams) fun (t_9 : Int) =>
 letK (t_9 == x_paid) fun (t_12 : Bool) =>
 some t_12

set_option maxRecDepth 100000 in
set_option maxHeartbeats 2000000 in
theorem C (rates : (List PRate.Rate)) (x : PCover.Cover) (A0 : Option Addr) (c0 : Nat)  (w : World) (M0 : Hid (Cells w 5 A0 rates.length (PRate.flat rates))) (N0 : Hid (rates.length ≤ 9223372036854775807))  {r : Bool} (H : Hid (P rates x = some r)) :
  Calls Try.prog 82 #[.slice A0 rates.length c0, x.val] w (Gives (.bool r) w) := by
 have HB := Lib.hid (Below.refl w.heap.size w); unfold P at H; obtain ⟨x_id, x_day, x_zone, x_grams, x_paid, x_from_, x_to_, x_leave, x_arrive⟩ := x; replace H := unCover_hid H; unfold PCover.Cover.val; have N0o := N0.out
 go_enter Try.func82, Try.ntmps82
 obtain ⟨a10, b10⟩ : ∃ x, w.alloc (.cells #[.int .i64 x_id, .int .i64 x_day, .int .i64 x_zone, .int .i64 x_grams, .int .i64 x_paid, .int .i64 x_from_, .int .i64 x_to_, .int .i64 x_leave, .int .i64 x_arrive] 30) = x := ⟨_, rfl⟩; have l10 : Below w.heap.size w a10 := (by rw [← b10]; exact (Below.refl _ _).alloc (Nat.le_refl _) _); have r10 := Lib.hid (Below.step HB.out l10); clear l10; have i10 : a10.cell? ⟨w.heap.size, 0, none⟩ = some (.int .i64 x_id) := (by rw [← b10]; exact box_new _ _ _ 0 _ rfl); have c10 : a10.cell? ⟨w.heap.size, 1, none⟩ = some (.int .i64 x_day) := (by rw [← b10]; exact box_new _ _ _ 1 _ rfl); have k10 : a10.cell? ⟨w.heap.size, 2, none⟩ = some (.int .i64 x_zone) := (by rw [← b10]; exact box_new _ _ _ 2 _ rfl); have f10 : a10.cell? ⟨w.heap.size, 3, none⟩ = some (.int .i64 x_grams) := (by rw [← b10]; exact box_new _ _ _ 3 _ rfl); have h10 : a10.cell? ⟨w.heap.size, 4, none⟩ = some (.int .i64 x_paid) := (by rw [← b10]; exact box_new _ _ _ 4 _ rfl); have e10 : a10.cell? ⟨w.heap.size, 5, none⟩ = some (.int .i64 x_from_) := (by rw [← b10]; exact box_new _ _ _ 5 _ rfl); have j10 : a10.cell? ⟨w.heap.size, 6, none⟩ = some (.int .i64 x_to_) := (by rw [← b10]; exact box_new _ _ _ 6 _ rfl); have g10 : a10.cell? ⟨w.heap.size, 7, none⟩ = some (.int .i64 x_leave) := (by rw [← b10]; exact box_new _ _ _ 7 _ rfl); have d10 : a10.cell? ⟨w.heap.size, 8, none⟩ = some (.int .i64 x_arrive) := (by rw [← b10]; exact box_new _ _ _ 8 _ rfl); go_wp2_with fail; have m10 := Lib.hid i10; replace i10 := cell_regrown i10; have t10 := Lib.hid c10; replace c10 := cell_regrown c10; have v10 := Lib.hid k10; replace k10 := cell_regrown k10; have n10 := Lib.hid f10; replace f10 := cell_regrown f10; have p10 := Lib.hid h10; replace h10 := cell_regrown h10; have o10 := Lib.hid e10; replace e10 := cell_regrown e10; have w10 := Lib.hid j10; replace j10 := cell_regrown j10; have s10 := Lib.hid g10; replace g10 := cell_regrown g10; have q10 := Lib.hid d10; replace d10 := cell_regrown d10; replace H := bind_hid H; obtain ⟨t_9, qt_9, H⟩ := H; have nt_9 : ∀ d os, Calls Try.prog 159 #[.slice A0 rates.length c0, .int .i64 x_day, .int .i64 x_zone, .int .i64 x_grams] (Go.Sort.grow (redrawn a10 d) os) fun e w'' => e = .returned (.int .i64 t_9) ∧ ∃ p : Regrown, w'' = Go.Sort.grow (redrawn a10 p.d) p.os := fun d os => Calls.regrown_of (GsL8For.C (rates) (x_day) (x_zone) (x_grams) A0 c0 _   (Lib.hid (Cells.below (Cells.below M0.out r10.out) (below_regrown _ _ _))) N0 qt_9); replace H := let_hid H; obtain ⟨t_12, x10, H⟩ := H; refine wp_region_quiet_below (by kernel_rfl) (by kernel_rfl) ?_
 repeat (go_big_quiet_step (first | (go_at_call 159; exact nt_9 _ _)))
 refine wpQuiet_nil ?_; intro Y1 hY1; replace hY1 := below_class hY1; clear nt_9; replace i10 := m10.out; clear m10; replace c10 := t10.out; clear t10; replace k10 := v10.out; clear v10; replace f10 := n10.out; clear n10; replace h10 := p10.out; clear p10; replace e10 := o10.out; clear o10; replace j10 := w10.out; clear w10; replace g10 := s10.out; clear s10; replace d10 := q10.out; clear q10; have HBY1 := Lib.hid (Below.step r10.out hY1); replace i10 := cell_below hY1 i10; replace c10 := cell_below hY1 c10; replace k10 := cell_below hY1 k10; replace f10 := cell_below hY1 f10; replace h10 := cell_below hY1 h10; replace e10 := cell_below hY1 e10; replace j10 := cell_below hY1 j10; replace g10 := cell_below hY1 g10; replace d10 := cell_below hY1 d10; clear hY1; obtain rfl := ret_hid H; go_wp2_with fail; go_ret; exact ⟨rfl, HBY1.out⟩
end Go.Proofs.Ytihibckijdfidaa.GsL12Explained

namespace Go.Proofs.Ytihibckijdfidaa.GsIsExplained
open Go.RowKit
open Go.Proofs.Ytihibckijdfidaa.Rowed Go.Proofs.Ytihibckijdfidaa.Turn Go.Proofs.Ytihibckijdfidaa.Aid Go.Proofs.Ytihibckijdfidaa.GoP Go.Proofs.Ytihibckijdfidaa.GoM

def P (fuel : Nat) (rates : (List PRate.Rate)) (x : PCover.Cover) : Option (Bool × Bool) :=
 unCover x fun (x_id : Int) (x_day : Int) (x_zone : Int) (x_grams : Int) (x_paid : Int) (x_from_ : Int) (x_to_ : Int) (x_leave : Int) (x_arrive : Int) =>
 Option.bind (GsL8Good.P fuel rates) fun (t_4 : Bool) =>
 letK (!t_4) fun (t_5 : Bool) =>
 joinK (fun (t_10 : Bool) =>
 iteK t_10
 (some (false, false))
 (Option.bind (GsL12Explained.P rates (PCover.Cover.mk x_id x_day x_zone x_grams x_paid x_from_ x_to_ x_leave x_arrive)) fun (t_15 : Bool) =>
 some (t_15, true))) fun jt_10 => iteK t_5 (appK jt_10 true) (Option.bind (GsL10One.P (PCover.Cover.mk x_id x_day x_zone x_grams x_paid x_from_ x_to_ x_leave x_arrive)) fun (t_8 : Bool) =>
 letK (!t_8) fun (t_9 : Bool) =>
 appK jt_10 t_9)

set_option maxRecDepth 100000 in
set_option maxHeartbeats 2000000 in
theorem C (fuel : Nat) (rates : (List PRate.Rate)) (x : PCover.Cover) (A0 : Option Addr) (c0 : Nat)  (w : World) (M0 : Hid (Cells w 5 A0 rates.length (PRate.flat rates))) (N0 : Hid (rates.length ≤ 9223372036854775807))  {r0 : Bool} {r1 : Bool} (H : Hid (P fuel rates x = some (r0, r1))) :
  Calls Try.prog 16 #[.slice A0 rates.length c0, x.val] w (Gives (.tuple #[.bool r0, .bool r1]) w) := by
 have HB := Lib.hid (Below.refl w.heap.size w); unfold P at H; obtain ⟨x_id, x_day, x_zone, x_grams, x_paid, x_from_, x_to_, x_leave, x_arrive⟩ := x; replace H := unCover_hid H; unfold PCover.Cover.val; have N0o := N0.out
 go_enter Try.func16, Try.ntmps16
 obtain ⟨c10, b10⟩ : ∃ x, w.alloc (.cells #[.int .i64 x_id, .int .i64 x_day, .int .i64 x_zone, .int .i64 x_grams, .int .i64 x_paid, .int .i64 x_from_, .int .i64 x_to_, .int .i64 x_leave, .int .i64 x_arrive] 30) = x := ⟨_, rfl⟩; have o10 : Below w.heap.size w c10 := (by rw [← b10]; exact (Below.refl _ _).alloc (Nat.le_refl _) _); have n10 := Lib.hid (Below.step HB.out o10); clear o10; have e10 : c10.cell? ⟨w.heap.size, 0, none⟩ = some (.int .i64 x_id) := (by rw [← b10]; exact box_new _ _ _ 0 _ rfl); have d10 : c10.cell? ⟨w.heap.size, 1, none⟩ = some (.int .i64 x_day) := (by rw [← b10]; exact box_new _ _ _ 1 _ rfl); have g10 : c10.cell? ⟨w.heap.size, 2, none⟩ = some (.int .i64 x_zone) := (by rw [← b10]; exact box_new _ _ _ 2 _ rfl); have f10 : c10.cell? ⟨w.heap.size, 3, none⟩ = some (.int .i64 x_grams) := (by rw [← b10]; exact box_new _ _ _ 3 _ rfl); have i10 : c10.cell? ⟨w.heap.size, 4, none⟩ = some (.int .i64 x_paid) := (by rw [← b10]; exact box_new _ _ _ 4 _ rfl); have j10 : c10.cell? ⟨w.heap.size, 5, none⟩ = some (.int .i64 x_from_) := (by rw [← b10]; exact box_new _ _ _ 5 _ rfl); have l10 : c10.cell? ⟨w.heap.size, 6, none⟩ = some (.int .i64 x_to_) := (by rw [← b10]; exact box_new _ _ _ 6 _ rfl); have k10 : c10.cell? ⟨w.heap.size, 7, none⟩ = some (.int .i64 x_leave) := (by rw [← b10]; exact box_new _ _ _ 7 _ rfl); have h10 : c10.cell? ⟨w.heap.size, 8, none⟩ = some (.int .i64 x_arrive) := (by rw [← b10]; exact box_new _ _ _ 8 _ rfl); replace H := bind_hid H; obtain ⟨t_4, qt_4, H⟩ := H; go_wp2_with fail; go_at_call 80; refine (GsL8Good.C fuel (rates) A0 c0 _   (Lib.hid (Cells.below M0.out n10.out)) N0 qt_4).mono ?_; rintro s10 wt_4 ⟨rfl, bt_4⟩; have p10 := Lib.hid (Below.step n10.out bt_4); replace e10 := cell_below bt_4 e10; replace d10 := cell_below bt_4 d10; replace g10 := cell_below bt_4 g10; replace f10 := cell_below bt_4 f10; replace i10 := cell_below bt_4 i10; replace j10 := cell_below bt_4 j10; replace l10 := cell_below bt_4 l10; replace k10 := cell_below bt_4 k10; replace h10 := cell_below bt_4 h10; clear bt_4
 cases t_4 with
 | false =>
  replace H := let_hid H; obtain ⟨t_5, ht_5, H⟩ := H; obtain rfl : t_5 = true := ht_5.symm; replace H := join_hid H; replace H := ite_t H; replace H := app_hid H; replace H := ite_t H; cases ret_hid H; go_wp2_with fail; go_ret2; exact ⟨rfl, p10.out⟩
 | true =>
  replace H := let_hid H; obtain ⟨t_5, ht_5, H⟩ := H; obtain rfl : t_5 = false := ht_5.symm; replace H := join_hid H; replace H := ite_f H; replace H := bind_hid H; obtain ⟨t_8, qt_8, H⟩ := H; go_wp2_with fail; go_at_call 81; refine (GsL10One.C ((PCover.Cover.mk x_id x_day x_zone x_grams x_paid x_from_ x_to_ x_leave x_arrive))  _    qt_8).mono ?_; rintro t10 wt_8 ⟨rfl, bt_8⟩; have m10 := Lib.hid (Below.step p10.out bt_8); replace e10 := cell_below bt_8 e10; replace d10 := cell_below bt_8 d10; replace g10 := cell_below bt_8 g10; replace f10 := cell_below bt_8 f10; replace i10 := cell_below bt_8 i10; replace j10 := cell_below bt_8 j10; replace l10 := cell_below bt_8 l10; replace k10 := cell_below bt_8 k10; replace h10 := cell_below bt_8 h10; clear bt_8
  cases t_8 with
  | false =>
   replace H := let_hid H; obtain ⟨t_9, ht_9, H⟩ := H; obtain rfl : t_9 = true := ht_9.symm; replace H := app_hid H; replace H := ite_t H; cases ret_hid H; go_wp2_with fail; go_ret2; exact ⟨rfl, m10.out⟩
  | true =>
   replace H := let_hid H; obtain ⟨t_9, ht_9, H⟩ := H; obtain rfl : t_9 = false := ht_9.symm; replace H := app_hid H; replace H := ite_f H; replace H := bind_hid H; obtain ⟨t_15, q10, H⟩ := H; go_wp2_with fail; go_at_call 82; refine (GsL12Explained.C (rates) ((PCover.Cover.mk x_id x_day x_zone x_grams x_paid x_from_ x_to_ x_leave x_arrive)) A0 c0 _   (Lib.hid (Cells.below M0.out m10.out)) N0 q10).mono ?_; rintro w10 v10 ⟨rfl, a10⟩; have r10 := Lib.hid (Below.step m10.out a10); replace e10 := cell_below a10 e10; replace d10 := cell_below a10 d10; replace g10 := cell_below a10 g10; replace f10 := cell_below a10 f10; replace i10 := cell_below a10 i10; replace j10 := cell_below a10 j10; replace l10 := cell_below a10 l10; replace k10 := cell_below a10 k10; replace h10 := cell_below a10 h10; clear a10; cases ret_hid H; go_wp2_with fail; go_ret2; exact ⟨rfl, r10.out⟩
end Go.Proofs.Ytihibckijdfidaa.GsIsExplained

namespace Go.Proofs.Ytihibckijdfidaa.GiIsZone
open Go.RowKit
open Go.Proofs.Ytihibckijdfidaa.Rowed Go.Proofs.Ytihibckijdfidaa.Turn Go.Proofs.Ytihibckijdfidaa.Aid Go.Proofs.Ytihibckijdfidaa.GoP Go.Proofs.Ytihibckijdfidaa.GoM

def P (zone : Int) : Option (Bool) :=
  Option.bind (Go.Proofs.Ytihibckijdfidaa.GiWithin.P zone 0 9) fun (t_2 : Bool) =>
  some t_2

set_option maxRecDepth 100000 in
set_option maxHeartbeats 2000000 in
theorem C (zone : Int)   (w : World)   {r : Bool} (H : Hid (P zone = some r)) :
    Calls Try.prog 173 #[.int .i64 zone] w (Gives (.bool r) w) := by
  have HB := Lib.hid (Below.refl w.heap.size w)
  unfold P at H
  go_enter Try.func173, Try.ntmps173
  replace H := bind_hid H
  obtain ⟨t_2, qt_2, H⟩ := H
  go_wp2_with fail
  go_at_call 119
  refine (Go.Proofs.Ytihibckijdfidaa.GiWithin.C (zone) (0) (9)  _    qt_2).mono ?_
  rintro e_t_2 wt_2 ⟨rfl, bt_2⟩
  have HBwt_2 := Lib.hid (Below.step HB.out bt_2)
  clear bt_2
  obtain rfl := ret_hid H
  go_wp2_with fail
  go_ret
  exact ⟨rfl, HBwt_2.out⟩
end Go.Proofs.Ytihibckijdfidaa.GiIsZone

namespace Go.Proofs.Ytihibckijdfidaa.GiIsWeight
open Go.RowKit
open Go.Proofs.Ytihibckijdfidaa.Rowed Go.Proofs.Ytihibckijdfidaa.Turn Go.Proofs.Ytihibckijdfidaa.Aid Go.Proofs.Ytihibckijdfidaa.GoP Go.Proofs.Ytihibckijdfidaa.GoM

def P (grams : Int) : Option (Bool) :=
  Option.bind (Go.Proofs.Ytihibckijdfidaa.GiWithin.P grams 1 2000) fun (t_2 : Bool) =>
  some t_2

set_option maxRecDepth 100000 in
set_option maxHeartbeats 2000000 in
theorem C (grams : Int)   (w : World)   {r : Bool} (H : Hid (P grams = some r)) :
    Calls Try.prog 174 #[.int .i64 grams] w (Gives (.bool r) w) := by
  have HB := Lib.hid (Below.refl w.heap.size w)
  unfold P at H
  go_enter Try.func174, Try.ntmps174
  replace H := bind_hid H
  obtain ⟨t_2, qt_2, H⟩ := H
  go_wp2_with fail
  go_at_call 119
  refine (Go.Proofs.Ytihibckijdfidaa.GiWithin.C (grams) (1) (2000)  _    qt_2).mono ?_
  rintro e_t_2 wt_2 ⟨rfl, bt_2⟩
  have HBwt_2 := Lib.hid (Below.step HB.out bt_2)
  clear bt_2
  obtain rfl := ret_hid H
  go_wp2_with fail
  go_ret
  exact ⟨rfl, HBwt_2.out⟩
end Go.Proofs.Ytihibckijdfidaa.GiIsWeight

namespace Go.Proofs.Ytihibckijdfidaa.GiIsRateCents
open Go.RowKit
open Go.Proofs.Ytihibckijdfidaa.Rowed Go.Proofs.Ytihibckijdfidaa.Turn Go.Proofs.Ytihibckijdfidaa.Aid Go.Proofs.Ytihibckijdfidaa.GoP Go.Proofs.Ytihibckijdfidaa.GoM

def P (cents : Int) : Option (Bool) :=
  Option.bind (Go.Proofs.Ytihibckijdfidaa.GiWithin.P cents 1 9999) fun (t_2 : Bool) =>
  some t_2

set_option maxRecDepth 100000 in
set_option maxHeartbeats 2000000 in
theorem C (cents : Int)   (w : World)   {r : Bool} (H : Hid (P cents = some r)) :
    Calls Try.prog 175 #[.int .i64 cents] w (Gives (.bool r) w) := by
  have HB := Lib.hid (Below.refl w.heap.size w)
  unfold P at H
  go_enter Try.func175, Try.ntmps175
  replace H := bind_hid H
  obtain ⟨t_2, qt_2, H⟩ := H
  go_wp2_with fail
  go_at_call 119
  refine (Go.Proofs.Ytihibckijdfidaa.GiWithin.C (cents) (1) (9999)  _    qt_2).mono ?_
  rintro e_t_2 wt_2 ⟨rfl, bt_2⟩
  have HBwt_2 := Lib.hid (Below.step HB.out bt_2)
  clear bt_2
  obtain rfl := ret_hid H
  go_wp2_with fail
  go_ret
  exact ⟨rfl, HBwt_2.out⟩
end Go.Proofs.Ytihibckijdfidaa.GiIsRateCents

namespace Go.Proofs.Ytihibckijdfidaa.GiIsDay
open Go.RowKit
open Go.Proofs.Ytihibckijdfidaa.Rowed Go.Proofs.Ytihibckijdfidaa.Turn Go.Proofs.Ytihibckijdfidaa.Aid Go.Proofs.Ytihibckijdfidaa.GoP Go.Proofs.Ytihibckijdfidaa.GoM

def P (day : Int) : Option (Bool) :=
  Option.bind (Go.Proofs.Ytihibckijdfidaa.GiWithin.P day 0 4000) fun (t_2 : Bool) =>
  some t_2

set_option maxRecDepth 100000 in
set_option maxHeartbeats 2000000 in
theorem C (day : Int)   (w : World)   {r : Bool} (H : Hid (P day = some r)) :
    Calls Try.prog 172 #[.int .i64 day] w (Gives (.bool r) w) := by
  have HB := Lib.hid (Below.refl w.heap.size w)
  unfold P at H
  go_enter Try.func172, Try.ntmps172
  replace H := bind_hid H
  obtain ⟨t_2, qt_2, H⟩ := H
  go_wp2_with fail
  go_at_call 119
  refine (Go.Proofs.Ytihibckijdfidaa.GiWithin.C (day) (0) (4000)  _    qt_2).mono ?_
  rintro e_t_2 wt_2 ⟨rfl, bt_2⟩
  have HBwt_2 := Lib.hid (Below.step HB.out bt_2)
  clear bt_2
  obtain rfl := ret_hid H
  go_wp2_with fail
  go_ret
  exact ⟨rfl, HBwt_2.out⟩
end Go.Proofs.Ytihibckijdfidaa.GiIsDay

namespace Go.Proofs.Ytihibckijdfidaa.GiIsRate
open Go.RowKit
open Go.Proofs.Ytihibckijdfidaa.Rowed Go.Proofs.Ytihibckijdfidaa.Turn Go.Proofs.Ytihibckijdfidaa.Aid Go.Proofs.Ytihibckijdfidaa.GoP Go.Proofs.Ytihibckijdfidaa.GoM

def P (r_0 : PRate.Rate) : Option (Bool) :=
 unRate r_0 fun (r_0_zone : Int) (r_0_grams : Int) (r_0_from_ : Int) (r_0_until_ : Int) (r_0_cents : Int) =>
 Option.bind (GiIsZone.P r_0_zone) fun (t_4 : Bool) =>
 joinK (fun (t_9 : Bool) =>
 joinK (fun (t_14 : Bool) =>
 joinK (fun (t_19 : Bool) =>
 joinK (fun (t_24 : Bool) =>
 joinK (fun (t_31 : Bool) =>
 some t_31) fun jt_31 => iteK t_24 (letK (decide (r_0_from_ ≤ r_0_until_)) fun (t_30 : Bool) =>
 appK jt_31 t_30) (appK jt_31 false)) fun jt_24 => iteK t_19 (Option.bind (GiIsDay.P r_0_until_) fun (t_23 : Bool) =>
 appK jt_24 t_23) (appK jt_24 false)) fun jt_19 => iteK t_14 (Option.bind (GiIsDay.P r_0_from_) fun (t_18 : Bool) =>
 appK jt_19 t_18) (appK jt_19 false)) fun jt_14 => iteK t_9 (Option.bind (GiIsRateCents.P r_0_cents) fun (t_13 : Bool) =>
 appK jt_14 t_13) (appK jt_14 false)) fun jt_9 => iteK t_4 (Option.bind (GiIsWeight.P r_0_grams) fun (t_8 : Bool) =>
 appK jt_9 t_8) (appK jt_9 false)

set_option maxRecDepth 100000 in
set_option maxHeartbeats 2000000 in
theorem C (r_0 : PRate.Rate)   (w : World)   {r : Bool} (H : Hid (P r_0 = some r)) :
  Calls Try.prog 201 #[r_0.val] w (Gives (.bool r) w) := by
 have HB := Lib.hid (Below.refl w.heap.size w); unfold P at H; obtain ⟨k10, l10, n10, o10, m10⟩ := r_0; replace H := unRate_hid H; unfold PRate.Rate.val
 go_enter Try.func201, Try.ntmps201
 obtain ⟨i10, j10⟩ : ∃ x, w.alloc (.cells #[.int .i64 k10, .int .i64 l10, .int .i64 n10, .int .i64 o10, .int .i64 m10] 120) = x := ⟨_, rfl⟩; have v10 : Below w.heap.size w i10 := (by rw [← j10]; exact (Below.refl _ _).alloc (Nat.le_refl _) _); have z10 := Lib.hid (Below.step HB.out v10); clear v10; have a10 : i10.cell? ⟨w.heap.size, 0, none⟩ = some (.int .i64 k10) := (by rw [← j10]; exact box_new _ _ _ 0 _ rfl); have c10 : i10.cell? ⟨w.heap.size, 1, none⟩ = some (.int .i64 l10) := (by rw [← j10]; exact box_new _ _ _ 1 _ rfl); have e10 : i10.cell? ⟨w.heap.size, 2, none⟩ = some (.int .i64 n10) := (by rw [← j10]; exact box_new _ _ _ 2 _ rfl); have d10 : i10.cell? ⟨w.heap.size, 3, none⟩ = some (.int .i64 o10) := (by rw [← j10]; exact box_new _ _ _ 3 _ rfl); have b10 : i10.cell? ⟨w.heap.size, 4, none⟩ = some (.int .i64 m10) := (by rw [← j10]; exact box_new _ _ _ 4 _ rfl); replace H := bind_hid H; obtain ⟨t_4, qt_4, H⟩ := H; go_wp2_with fail; go_at_call 173; refine (GiIsZone.C (k10)  _    qt_4).mono ?_; rintro g11 wt_4 ⟨rfl, bt_4⟩; have p10 := Lib.hid (Below.step z10.out bt_4); replace a10 := cell_below bt_4 a10; replace c10 := cell_below bt_4 c10; replace e10 := cell_below bt_4 e10; replace d10 := cell_below bt_4 d10; replace b10 := cell_below bt_4 b10; clear bt_4; replace H := join_hid H
 cases t_4 with
 | false =>
  replace H := ite_f H; replace H := app_hid H; replace H := join_hid H; replace H := ite_f H; replace H := app_hid H; replace H := join_hid H; replace H := ite_f H; replace H := app_hid H; replace H := join_hid H; replace H := ite_f H; replace H := app_hid H; replace H := join_hid H; replace H := ite_f H; replace H := app_hid H; obtain rfl := ret_hid H; go_wp2_with fail; go_ret; exact ⟨rfl, p10.out⟩
 | true =>
  replace H := ite_t H; replace H := bind_hid H; obtain ⟨t_8, qt_8, H⟩ := H; go_wp2_with fail; go_at_call 174; refine (GiIsWeight.C (l10)  _    qt_8).mono ?_; rintro b11 wt_8 ⟨rfl, bt_8⟩; have t10 := Lib.hid (Below.step p10.out bt_8); replace a10 := cell_below bt_8 a10; replace c10 := cell_below bt_8 c10; replace e10 := cell_below bt_8 e10; replace d10 := cell_below bt_8 d10; replace b10 := cell_below bt_8 b10; clear bt_8; replace H := app_hid H; replace H := join_hid H
  cases t_8 with
  | false =>
   replace H := ite_f H; replace H := app_hid H; replace H := join_hid H; replace H := ite_f H; replace H := app_hid H; replace H := join_hid H; replace H := ite_f H; replace H := app_hid H; replace H := join_hid H; replace H := ite_f H; replace H := app_hid H; obtain rfl := ret_hid H; go_wp2_with fail; go_ret; exact ⟨rfl, t10.out⟩
  | true =>
   replace H := ite_t H; replace H := bind_hid H; obtain ⟨t_13, y10, H⟩ := H; go_wp2_with fail; go_at_call 175; refine (GiIsRateCents.C (m10)  _    y10).mono ?_; rintro d11 f11 ⟨rfl, h10⟩; have q10 := Lib.hid (Below.step t10.out h10); replace a10 := cell_below h10 a10; replace c10 := cell_below h10 c10; replace e10 := cell_below h10 e10; replace d10 := cell_below h10 d10; replace b10 := cell_below h10 b10; clear h10; replace H := app_hid H; replace H := join_hid H
   cases t_13 with
   | false =>
    replace H := ite_f H; replace H := app_hid H; replace H := join_hid H; replace H := ite_f H; replace H := app_hid H; replace H := join_hid H; replace H := ite_f H; replace H := app_hid H; obtain rfl := ret_hid H; go_wp2_with fail; go_ret; exact ⟨rfl, q10.out⟩
   | true =>
    replace H := ite_t H; replace H := bind_hid H; obtain ⟨t_18, x10, H⟩ := H; go_wp2_with fail; go_at_call 172; refine (GiIsDay.C (n10)  _    x10).mono ?_; rintro i11 c11 ⟨rfl, g10⟩; have s10 := Lib.hid (Below.step q10.out g10); replace a10 := cell_below g10 a10; replace c10 := cell_below g10 c10; replace e10 := cell_below g10 e10; replace d10 := cell_below g10 d10; replace b10 := cell_below g10 b10; clear g10; replace H := app_hid H; replace H := join_hid H
    cases t_18 with
    | false =>
     replace H := ite_f H; replace H := app_hid H; replace H := join_hid H; replace H := ite_f H; replace H := app_hid H; obtain rfl := ret_hid H; go_wp2_with fail; go_ret; exact ⟨rfl, s10.out⟩
    | true =>
     replace H := ite_t H; replace H := bind_hid H; obtain ⟨t_23, w10, H⟩ := H; go_wp2_with fail; go_at_call 172; refine (GiIsDay.C (o10)  _    w10).mono ?_; rintro a11 e11 ⟨rfl, f10⟩; have r10 := Lib.hid (Below.step s10.out f10); replace a10 := cell_below f10 a10; replace c10 := cell_below f10 c10; replace e10 := cell_below f10 e10; replace d10 := cell_below f10 d10; replace b10 := cell_below f10 b10; clear f10; replace H := app_hid H; replace H := join_hid H
     cases t_23 with
     | false =>
      replace H := ite_f H; replace H := app_hid H; obtain rfl := ret_hid H; go_wp2_with fail; go_ret; exact ⟨rfl, r10.out⟩
     | true =>
      replace H := ite_t H; replace H := let_hid H; obtain ⟨t_30, h11, H⟩ := H; replace H := app_hid H; obtain rfl := ret_hid H; go_wp2_with fail; go_ret; exact ⟨rfl, r10.out⟩
end Go.Proofs.Ytihibckijdfidaa.GiIsRate

namespace Go.Proofs.Ytihibckijdfidaa.PrateClass
set_option maxRecDepth 100000

structure rateClass where
  zone : Int
  grams : Int
def rateClass.cells (s : rateClass) : List Value := [.int .i64 s.zone, .int .i64 s.grams]
def rateClass.val (s : rateClass) : Value := .agg #[.int .i64 s.zone, .int .i64 s.grams]
/-- each field fits -/
def rateClass.fits (s : rateClass) : Prop := (Lit.int .i64 s.zone).wf = true ∧ (Lit.int .i64 s.grams).wf = true
def zero : rateClass := ⟨0, 0⟩
/-- the letters of its texts -/
def rateClass.wt (s : rateClass) : Nat := 0
def wts (l : List rateClass) : Nat := (l.map rateClass.wt).sum
theorem wts_snoc (l : List rateClass) (s : rateClass) : wts (l ++ [s]) = wts l + s.wt := by unfold wts; simp [List.sum_append]
theorem wts_succ {l : List rateClass} {k : Nat} {s : rateClass} (h : l[k]? = some s) : wts (l.take (k + 1)) = wts (l.take k) + s.wt := by
  have hk := List.getElem?_eq_some_iff.1 h
  rw [List.take_succ_eq_append_getElem hk.1, hk.2, wts_snoc]
theorem wts_take (l : List rateClass) (k : Nat) : wts (l.take k) ≤ wts l := by
  have : wts l = wts (l.take k) + wts (l.drop k) := by
    unfold wts; rw [← List.sum_append, ← List.map_append, List.take_append_drop]
  omega
theorem wts_all (l : List rateClass) : wts (l.take l.length) = wts l := by rw [List.take_of_length_le (Nat.le_refl _)]

/-- the cells of a list of records, one after the other -/
def flat (l : List rateClass) : List Value := l.flatMap rateClass.cells
theorem flat_nil : flat [] = [] := rfl
theorem flat_cons (s : rateClass) (l : List rateClass) : flat (s :: l) = s.cells ++ flat l := by simp [flat]
theorem flat_snoc (l : List rateClass) (s : rateClass) : flat (l ++ [s]) = flat l ++ s.cells := by simp [flat]
theorem flat_len (l : List rateClass) : (flat l).length = l.length * 2 := by
  induction l with
  | nil => rfl
  | cons s l ih => rw [flat_cons, List.length_append, ih]; simp [rateClass.cells]; omega
theorem flat_at : ∀ (l : List rateClass) (k : Nat) (s : rateClass), l[k]? = some s → ∀ j, j < 2 → (flat l)[k * 2 + j]? = s.cells[j]?
  | [], k, s, h, _, _ => by simp at h
  | r :: l, 0, s, h, j, hj => by
    obtain rfl : r = s := by simpa using h
    rw [flat_cons, List.getElem?_append_left (by simp [rateClass.cells]; omega)]; simp
  | r :: l, k + 1, s, h, j, hj => by
    rw [flat_cons, List.getElem?_append_right (by simp [rateClass.cells]; omega), show (k + 1) * 2 + j - r.cells.length = k * 2 + j by simp [rateClass.cells]; omega]
    exact flat_at l k s (by simpa using h) j hj
end Go.Proofs.Ytihibckijdfidaa.PrateClass

namespace Go.Proofs.Ytihibckijdfidaa.GoP
open Go.RowKit
def unrateClass {ρ : Type} (s : Go.Proofs.Ytihibckijdfidaa.PrateClass.rateClass) (f : Int → Int → Option ρ) : Option ρ := f s.zone s.grams
theorem unrateClass_hid {ρ : Type} {x0 : Int} {x1 : Int} {f : Int → Int → Option ρ} {r : ρ} (H : Hid (unrateClass ⟨x0, x1⟩ f = some r)) : Hid (f x0 x1 = some r) := H
end Go.Proofs.Ytihibckijdfidaa.GoP

namespace Go.Proofs.Ytihibckijdfidaa.GiClassOf
open Go.RowKit
open Go.Proofs.Ytihibckijdfidaa.Rowed Go.Proofs.Ytihibckijdfidaa.Turn Go.Proofs.Ytihibckijdfidaa.Aid Go.Proofs.Ytihibckijdfidaa.GoP Go.Proofs.Ytihibckijdfidaa.GoM

def P (r_0 : PRate.Rate) : Option (PrateClass.rateClass) :=
 unRate r_0 fun (r_0_zone : Int) (r_0_grams : Int) (r_0_from_ : Int) (r_0_until_ : Int) (r_0_cents : Int) =>
 some (PrateClass.rateClass.mk r_0_zone r_0_grams)

set_option maxRecDepth 100000 in
set_option maxHeartbeats 2000000 in
theorem C (r_0 : PRate.Rate)   (w : World)   {r : PrateClass.rateClass} (H : Hid (P r_0 = some r)) :
  Calls Try.prog 218 #[r_0.val] w (Gives ((PrateClass.rateClass.val r)) w) := by
 have HB := Lib.hid (Below.refl w.heap.size w); unfold P at H; obtain ⟨e10, c10, o10, r10, m10⟩ := r_0; replace H := unRate_hid H; unfold PRate.Rate.val
 go_enter Try.func218, Try.ntmps218
 obtain ⟨a10, g10⟩ : ∃ x, w.alloc (.cells #[.int .i64 e10, .int .i64 c10, .int .i64 o10, .int .i64 r10, .int .i64 m10] 120) = x := ⟨_, rfl⟩; have p10 : Below w.heap.size w a10 := (by rw [← g10]; exact (Below.refl _ _).alloc (Nat.le_refl _) _); have l10 := Lib.hid (Below.step HB.out p10); clear p10; have q10 : a10.cell? ⟨w.heap.size, 0, none⟩ = some (.int .i64 e10) := (by rw [← g10]; exact box_new _ _ _ 0 _ rfl); have d11 : a10.cell? ⟨w.heap.size, 1, none⟩ = some (.int .i64 c10) := (by rw [← g10]; exact box_new _ _ _ 1 _ rfl); have y10 : a10.cell? ⟨w.heap.size, 2, none⟩ = some (.int .i64 o10) := (by rw [← g10]; exact box_new _ _ _ 2 _ rfl); have x10 : a10.cell? ⟨w.heap.size, 3, none⟩ = some (.int .i64 r10) := (by rw [← g10]; exact box_new _ _ _ 3 _ rfl); have e11 : a10.cell? ⟨w.heap.size, 4, none⟩ = some (.int .i64 m10) := (by rw [← g10]; exact box_new _ _ _ 4 _ rfl); obtain ⟨f10, i10⟩ : ∃ x, a10.alloc (.cells #[.int .i64 0, .int .i64 0] 220) = x := ⟨_, rfl⟩; have b10 : Below a10.heap.size a10 f10 := (by rw [← i10]; exact (Below.refl _ _).alloc (Nat.le_refl _) _); have h10 := Lib.hid (apart_box q10); have n10 := Lib.hid (Below.step l10.out b10); have g11 := cell_below b10 q10; have b11 := cell_below b10 d11; have z10 := cell_below b10 y10; have f11 := cell_below b10 x10; have w10 := cell_below b10 e11; clear b10; have m11 : f10.cell? ⟨a10.heap.size, 0, none⟩ = some (.int .i64 0) := (by rw [← i10]; exact box_new _ _ _ 0 _ rfl); have p11 : f10.cell? ⟨a10.heap.size, 1, none⟩ = some (.int .i64 0) := (by rw [← i10]; exact box_new _ _ _ 1 _ rfl); have Ot_1 : Hid (f10.ownsRow w.heap.size 220 2 (.slice (some ⟨a10.heap.size, 0, none⟩) 1 1) 1 [.int .i64 0, .int .i64 0]) := Lib.hid (by rw [← i10]; exact own_laid (n := 1) l10.out.size rfl rfl (by unfold maxLen; omega)); obtain ⟨j10, s10⟩ : ∃ x, ((f10).setCell ⟨a10.heap.size, 0, none⟩ (.int .i64 e10)).setCell ⟨a10.heap.size, 1, none⟩ (.int .i64 c10) = x := ⟨_, rfl⟩; have i11 := Ot_1.out.frozenAt 0; have n11 := Ot_1.out.frozenAt 1; have k10 := Lib.hid (own_stores [(0, .int .i64 e10), (1, .int .i64 c10)] Ot_1.out); have t10 : Hid (j10.ownsRow w.heap.size 220 2 (.slice (some ⟨a10.heap.size, 0, none⟩) 1 1) 1 [.int .i64 e10, .int .i64 c10]) := Lib.hid (by rw [← s10]; exact k10.out.1); have d10 : Hid (f10.grownBy j10 (Value.slice (some ⟨a10.heap.size, 0, none⟩) 1 1).ownBlock) := Lib.hid (by rw [← s10]; exact k10.out.2); have a11 := Lib.hid (n10.out.grown d10.out n10.out.size (fun q hq => (Ot_1.out.lt q hq).1)); clear k10; have l11 := cell_other g11 d10.out h10.out; have j11 := cell_other b11 d10.out h10.out; have k11 := cell_other z10 d10.out h10.out; have h11 := cell_other f11 d10.out h10.out; have o11 := cell_other w10 d10.out h10.out; clear Ot_1 d10; have c11 : j10.cell? ⟨a10.heap.size, 0, none⟩ = some (.int .i64 e10) := t10.out.cells rfl 0 _ rfl; have v10 : j10.cell? ⟨a10.heap.size, 1, none⟩ = some (.int .i64 c10) := t10.out.cells rfl 1 _ rfl; cases ret_hid H; go_wp2_with fail
 (try simp only [Exit.inBlock, Exit.then])
 refine bodyPost_ret (v := .agg #[.int .i64 e10, .int .i64 c10]) ?hr_ ?hd_ ?_
 case hd_ => rfl
 case hr_ => simp [results, Try.results218, c11, v10, go_sem]
 exact ⟨rfl, a11.out⟩
end Go.Proofs.Ytihibckijdfidaa.GiClassOf

namespace Go.Proofs.Ytihibckijdfidaa.GxCmpIsNaNInt
open Go.RowKit
open Go.Proofs.Ytihibckijdfidaa.Rowed Go.Proofs.Ytihibckijdfidaa.Turn Go.Proofs.Ytihibckijdfidaa.Aid Go.Proofs.Ytihibckijdfidaa.GoP Go.Proofs.Ytihibckijdfidaa.GoM

def P (x : Int) : Option (Bool) :=
  some false

set_option maxRecDepth 100000 in
set_option maxHeartbeats 2000000 in
theorem C (x : Int)   (w : World)   {r : Bool} (H : Hid (P x = some r)) :
    Calls Try.prog 171 #[.int .i64 x] w (Gives (.bool r) w) := by
  have HB := Lib.hid (Below.refl w.heap.size w)
  unfold P at H
  go_enter Try.func171, Try.ntmps171
  obtain rfl := ret_hid H
  go_wp2_with fail
  go_ret
  exact ⟨rfl, HB.out⟩

set_option maxRecDepth 100000 in
set_option maxHeartbeats 2000000 in
theorem C0 (x : Int)   (w : World)   {r : Bool} (H : Hid (P x = some r)) :
    Calls Try.prog 171 #[.int .i64 x] w (fun e w'' => e = .returned (.bool r) ∧ w'' = w) := by
  have HB := Lib.hid (Below.refl w.heap.size w)
  unfold P at H
  go_enter Try.func171, Try.ntmps171
  obtain rfl := ret_hid H
  go_wp2_with fail
  go_ret
  exact ⟨rfl, rfl⟩
end Go.Proofs.Ytihibckijdfidaa.GxCmpIsNaNInt

namespace Go.Proofs.Ytihibckijdfidaa.GxCmpCompareInt
open Go.RowKit
open Go.Proofs.Ytihibckijdfidaa.Rowed Go.Proofs.Ytihibckijdfidaa.Turn Go.Proofs.Ytihibckijdfidaa.Aid Go.Proofs.Ytihibckijdfidaa.GoP Go.Proofs.Ytihibckijdfidaa.GoM

def P (x : Int) (y : Int) : Option (Int) :=
  Option.bind (Go.Proofs.Ytihibckijdfidaa.GxCmpIsNaNInt.P x) fun (t_2 : Bool) =>
  Option.bind (Go.Proofs.Ytihibckijdfidaa.GxCmpIsNaNInt.P y) fun (t_5 : Bool) =>
  iteK t_2
  (iteK t_5
  (some 0)
  (some (-1)))
  (iteK t_5
  (some 1)
  (letK (decide (x < y)) fun (t_15 : Bool) =>
  iteK t_15
  (some (-1))
  (letK (decide (y < x)) fun (t_19 : Bool) =>
  iteK t_19
  (some 1)
  (some 0))))

set_option maxRecDepth 100000 in
set_option maxHeartbeats 2000000 in
theorem C (x : Int) (y : Int)   (w : World)   {r : Int} (H : Hid (P x y = some r)) :
    Calls Try.prog 100 #[.int .i64 x, .int .i64 y] w (Gives (.int .i64 r) w) := by
  have HB := Lib.hid (Below.refl w.heap.size w)
  unfold P at H
  go_enter Try.func100, Try.ntmps100
  replace H := bind_hid H
  obtain ⟨t_2, qt_2, H⟩ := H
  go_wp2_with fail
  go_at_call 171
  refine (Go.Proofs.Ytihibckijdfidaa.GxCmpIsNaNInt.C (x)  _    qt_2).mono ?_
  rintro e_t_2 wt_2 ⟨rfl, bt_2⟩
  have HBwt_2 := Lib.hid (Below.step HB.out bt_2)
  clear bt_2
  replace H := bind_hid H
  obtain ⟨t_5, qt_5, H⟩ := H
  go_wp2_with fail
  go_at_call 171
  refine (Go.Proofs.Ytihibckijdfidaa.GxCmpIsNaNInt.C (y)  _    qt_5).mono ?_
  rintro e_t_5 wt_5 ⟨rfl, bt_5⟩
  have HBwt_5 := Lib.hid (Below.step HBwt_2.out bt_5)
  clear bt_5
  cases t_2 with
  | false =>
    replace H := ite_f H
    cases t_5 with
    | false =>
      replace H := ite_f H
      replace H := let_hid H
      obtain ⟨t_15, ht_15, H⟩ := H
      cases t_15 with
      | false =>
        replace H := ite_f H
        replace H := let_hid H
        obtain ⟨t_19, ht_19, H⟩ := H
        cases t_19 with
        | false =>
          replace H := ite_f H
          obtain rfl := ret_hid H
          go_wp2_with fail
          go_ret
          exact ⟨rfl, HBwt_5.out⟩
        | true =>
          replace H := ite_t H
          obtain rfl := ret_hid H
          go_wp2_with fail
          go_ret
          exact ⟨rfl, HBwt_5.out⟩
      | true =>
        replace H := ite_t H
        obtain rfl := ret_hid H
        go_wp2_with fail
        go_ret
        exact ⟨rfl, HBwt_5.out⟩
    | true =>
      replace H := ite_t H
      obtain rfl := ret_hid H
      go_wp2_with fail
      go_ret
      exact ⟨rfl, HBwt_5.out⟩
  | true =>
    replace H := ite_t H
    cases t_5 with
    | false =>
      replace H := ite_f H
      obtain rfl := ret_hid H
      go_wp2_with fail
      go_ret
      exact ⟨rfl, HBwt_5.out⟩
    | true =>
      replace H := ite_t H
      obtain rfl := ret_hid H
      go_wp2_with fail
      go_ret
      exact ⟨rfl, HBwt_5.out⟩
end Go.Proofs.Ytihibckijdfidaa.GxCmpCompareInt

namespace Go.Proofs.Ytihibckijdfidaa.GxCmpOrInt
open Go.RowKit
open Go.Proofs.Ytihibckijdfidaa.Rowed Go.Proofs.Ytihibckijdfidaa.Turn Go.Proofs.Ytihibckijdfidaa.Aid Go.Proofs.Ytihibckijdfidaa.GoP Go.Proofs.Ytihibckijdfidaa.GoM

def l0 (vals : (List Int)) (k0 : Nat) (s : Unit) (nx0 bk0 : Unit → Option (Int)) : Option (Int) :=
  
  Option.bind (idx vals (k0 : Int)) fun (yt_6 : Int) =>
  letK (yt_6 != 0) fun (t_11 : Bool) =>
  iteK t_11
  (some yt_6)
  (appK nx0 ())

def e0  (s : Unit) : Option (Int) :=
  
  some 0

def P (vals : (List Int)) : Option (Int) :=
  cntK (l0 vals) (vals.length) 0 () (e0 )

set_option maxRecDepth 100000 in
set_option maxHeartbeats 2000000 in
theorem C (vals : (List Int)) (A0 : Option Addr) (c0 : Nat)  (w : World) (M0 : Hid (Cells w 1 A0 vals.length (Go.Proofs.Ytihibckijdfidaa.HelpInt.iv vals))) (N0 : Hid (vals.length ≤ 9223372036854775807))  {r : Int} (H : Hid (P vals = some r)) :
    Calls Try.prog 99 #[.slice A0 vals.length c0] w (Gives (.int .i64 r) w) := by
  have HB := Lib.hid (Below.refl w.heap.size w)
  unfold P at H
  have N0o := N0.out
  go_enter Try.func99, Try.ntmps99
  go_wp2_with fail
  go_loopg [8] (vals.length) (fun m_ v8_ wr => ∃ (k0 : Nat) , k0 + m_ = vals.length ∧ v8_ = .int .i64 (k0 : Int) ∧ Hid (cntK (l0 vals) m_ k0 () (e0 ) = some r) ∧ Hid (Below w.heap.size w wr))
  case atStart => exact ⟨0, by omega, rfl, H, HB⟩
  case round =>
    obtain ⟨k0, hkm0, rfl, H, HBwr0⟩ := hrel
    rename World => wr0
    cases gk with
    | zero =>
      obtain rfl : k0 = vals.length := by omega
      have hc0 : decide (((vals.length : Nat) : Int) < ((vals.length : Nat) : Int)) = false := by simp
      replace H := cnt_zero H
      unfold e0 at H
      obtain rfl := ret_hid H
      go_wp2_with fail
      go_ret
      exact ⟨rfl, HBwr0.out⟩
    | succ m0 =>
      have hlt0 : k0 < vals.length := by omega
      have hc0 : decide ((k0 : Int) < ((vals.length : Nat) : Int)) = true := by simp; omega
      replace H := cnt_succ H
      unfold l0 at H
      replace H := idx_hid H
      obtain ⟨nt_6, yt_6, et_6, lt_6, gt_6, H⟩ := H
      obtain rfl : k0 = nt_6 := by omega
      clear et_6
      obtain ⟨ab_t_6, ao_t_6, zt_6, At_6, z_t_6, ct_6_0⟩ := Go.Proofs.Ytihibckijdfidaa.HelpInt.Ints.at_ M0.out lt_6
      obtain rfl := Option.some.inj (gt_6.out.symm.trans z_t_6)
      subst At_6
      have ltt_6 := cell_lt ct_6_0
      replace ct_6_0 := cell_below HBwr0.out ct_6_0
      clear z_t_6
      have b0t_6 : (0 : Int) ≤ (k0 : Int) := by omega
      have b1t_6 : (k0 : Int) < ((vals.length : Nat) : Int) := by omega
      have b2t_6 : ((k0 : Int)).toNat = k0 := by omega
      replace H := let_hid H
      obtain ⟨t_11, ht_11, H⟩ := H
      cases t_11 with
      | false =>
        replace H := ite_f H
        replace H := app_hid H
        go_wp2_with fail
        go_roundg m0
        case measure => omega
        case rel => exact ⟨k0 + 1, by omega, by go_num, H, HBwr0⟩
      | true =>
        replace H := ite_t H
        obtain rfl := ret_hid H
        go_wp2_with fail
        go_ret
        exact ⟨rfl, HBwr0.out⟩
end Go.Proofs.Ytihibckijdfidaa.GxCmpOrInt

namespace Go.Proofs.Ytihibckijdfidaa.GiCanFollow
open Go.RowKit
open Go.Proofs.Ytihibckijdfidaa.Rowed Go.Proofs.Ytihibckijdfidaa.Turn Go.Proofs.Ytihibckijdfidaa.Aid Go.Proofs.Ytihibckijdfidaa.GoP Go.Proofs.Ytihibckijdfidaa.GoM

def P (r_0 : Go.Proofs.Ytihibckijdfidaa.PRate.Rate) (before : Go.Proofs.Ytihibckijdfidaa.PRate.Rate) : Option (Bool) :=
  unRate r_0 fun (r_0_zone : Int) (r_0_grams : Int) (r_0_from_ : Int) (r_0_until_ : Int) (r_0_cents : Int) =>
  unRate before fun (before_zone : Int) (before_grams : Int) (before_from_ : Int) (before_until_ : Int) (before_cents : Int) =>
  Option.bind (Go.Proofs.Ytihibckijdfidaa.GiClassOf.P (Go.Proofs.Ytihibckijdfidaa.PRate.Rate.mk r_0_zone r_0_grams r_0_from_ r_0_until_ r_0_cents)) fun (t_4 : Go.Proofs.Ytihibckijdfidaa.PrateClass.rateClass) =>
  unrateClass t_4 fun (t_4_zone : Int) (t_4_grams : Int) =>
  Option.bind (Go.Proofs.Ytihibckijdfidaa.GiClassOf.P (Go.Proofs.Ytihibckijdfidaa.PRate.Rate.mk before_zone before_grams before_from_ before_until_ before_cents)) fun (t_6 : Go.Proofs.Ytihibckijdfidaa.PrateClass.rateClass) =>
  unrateClass t_6 fun (t_6_zone : Int) (t_6_grams : Int) =>
  letK (t_4_zone == t_6_zone && t_4_grams == t_6_grams) fun (t_7 : Bool) =>
  iteK t_7
  (letK (decide (before_until_ < r_0_from_)) fun (t_12 : Bool) =>
  some t_12)
  (Option.bind (Go.Proofs.Ytihibckijdfidaa.GxCmpCompareInt.P before_zone r_0_zone) fun (t_18 : Int) =>
  Option.bind (Go.Proofs.Ytihibckijdfidaa.GxCmpCompareInt.P before_grams r_0_grams) fun (t_23 : Int) =>
  letK ([t_18, t_23]) fun (t_24 : (List Int)) =>
  Option.bind (Go.Proofs.Ytihibckijdfidaa.GxCmpOrInt.P t_24) fun (t_25 : Int) =>
  letK (decide (t_25 < 0)) fun (t_26 : Bool) =>
  some t_26)

set_option maxRecDepth 100000
theorem eqr_220 (x0 x1 y0 y1 : Int) : ∀ W, (Op.equalIn 10000 220 (.agg #[Value.int IntKind.i64 x0, Value.int IntKind.i64 x1]) (.agg #[Value.int IntKind.i64 y0, Value.int IntKind.i64 y1])).run Try.prog W = .ok (x0 == y0 && x1 == y1) W := by
  intro W
  rw [run_equalIn_agg W _ _ _ _ (by kernel_rfl) (by kernel_rfl)]
  obtain ⟨f, hf⟩ : ∃ f, (Try.prog.fieldsOf 220).toList = f := ⟨_, rfl⟩
  have : (Try.prog.fieldsOf 220).toList.map (fun f => (f.name, f.type, f.offset)) = [("zone", 3, 0), ("grams", 3, 1)] := by kernel_rfl
  rw [hf] at this ⊢
  match f, this with
  | [f0, f1], h =>
    simp only [List.map_cons, List.map_nil, List.cons.injEq, Prod.mk.injEq, and_true] at h
    obtain ⟨⟨a0, b0, d0⟩, a1, b1, d1⟩ := h
    simp only [Op.eqFields, a0, b0, d0, a1, b1, d1]
    have p0 : ∀ (w : World) (x0 x1 : Int), (part 3 #[Value.int IntKind.i64 x0, Value.int IntKind.i64 x1] 0).run Try.prog w = .ok (.int .i64 x0) w := fun w x0 x1 => run_part_plain w (by kernel_rfl) rfl
    have p1 : ∀ (w : World) (x0 x1 : Int), (part 3 #[Value.int IntKind.i64 x0, Value.int IntKind.i64 x1] 1).run Try.prog w = .ok (.int .i64 x1) w := fun w x0 x1 => run_part_plain w (by kernel_rfl) rfl
    have e0 : ∀ (w : World) (d : Nat) (x y : Int), (Op.equalIn (d + 1) 3 (.int .i64 x) (.int .i64 y)).run Try.prog w = .ok (x == y) w := fun w d x y => run_equalIn_int w d 3 .i64 .i64 x y Try.underlying3
    have e1 : ∀ (w : World) (x y : Int), (Op.equalIn 9999 3 (.int .i64 x) (.int .i64 y)).run Try.prog w = .ok (x == y) w := fun w x y => e0 w 9998 x y
    rw [if_pos (by decide)]; rw [if_pos (by decide)]
    simp only [Sem.run_bind, p0, p1, e1, Result.andThen_ok, Sem.run_ite, Sem.run_pure]
    cases x0 == y0 <;> cases x1 == y1 <;> rfl
theorem eqla_220 (x0 x1 y0 y1 : Int) : ∀ W, (binOp .eql 220 (.agg #[Value.int IntKind.i64 x0, Value.int IntKind.i64 x1]) (.agg #[Value.int IntKind.i64 y0, Value.int IntKind.i64 y1])).run Try.prog W = .ok (.bool (x0 == y0 && x1 == y1)) W := by
  intro W
  rw [run_eql_struct, eqr_220]; rfl
theorem neqa_220 (x0 x1 y0 y1 : Int) : ∀ W, (binOp .neq 220 (.agg #[Value.int IntKind.i64 x0, Value.int IntKind.i64 x1]) (.agg #[Value.int IntKind.i64 y0, Value.int IntKind.i64 y1])).run Try.prog W = .ok (.bool (!(x0 == y0 && x1 == y1))) W := by
  intro W
  rw [run_neq_struct, eqr_220]; rfl

set_option maxRecDepth 100000 in
set_option maxHeartbeats 2000000 in
theorem C (r_0 : Go.Proofs.Ytihibckijdfidaa.PRate.Rate) (before : Go.Proofs.Ytihibckijdfidaa.PRate.Rate)   (w : World)   {r : Bool} (H : Hid (P r_0 before = some r)) :
    Calls Try.prog 202 #[r_0.val, before.val] w (Gives (.bool r) w) := by
  have HB := Lib.hid (Below.refl w.heap.size w); unfold P at H; obtain ⟨r_0_zone, r_0_grams, r_0_from_, r_0_until_, r_0_cents⟩ := r_0; replace H := unRate_hid H; obtain ⟨before_zone, before_grams, before_from_, before_until_, before_cents⟩ := before; replace H := unRate_hid H; unfold Go.Proofs.Ytihibckijdfidaa.PRate.Rate.val
  go_enter Try.func202, Try.ntmps202
  obtain ⟨w_r_0, hw_r_0⟩ : ∃ x, w.alloc (.cells #[.int .i64 r_0_zone, .int .i64 r_0_grams, .int .i64 r_0_from_, .int .i64 r_0_until_, .int .i64 r_0_cents] 120) = x := ⟨_, rfl⟩; have bw_r_0 : Below w.heap.size w w_r_0 := (by rw [← hw_r_0]; exact (Below.refl _ _).alloc (Nat.le_refl _) _); have HBw_r_0 := Lib.hid (Below.step HB.out bw_r_0); clear bw_r_0; have kr_0_0 : w_r_0.cell? ⟨w.heap.size, 0, none⟩ = some (.int .i64 r_0_zone) := (by rw [← hw_r_0]; exact box_new _ _ _ 0 _ rfl); have kr_0_1 : w_r_0.cell? ⟨w.heap.size, 1, none⟩ = some (.int .i64 r_0_grams) := (by rw [← hw_r_0]; exact box_new _ _ _ 1 _ rfl); have kr_0_2 : w_r_0.cell? ⟨w.heap.size, 2, none⟩ = some (.int .i64 r_0_from_) := (by rw [← hw_r_0]; exact box_new _ _ _ 2 _ rfl); have kr_0_3 : w_r_0.cell? ⟨w.heap.size, 3, none⟩ = some (.int .i64 r_0_until_) := (by rw [← hw_r_0]; exact box_new _ _ _ 3 _ rfl); have kr_0_4 : w_r_0.cell? ⟨w.heap.size, 4, none⟩ = some (.int .i64 r_0_cents) := (by rw [← hw_r_0]; exact box_new _ _ _ 4 _ rfl); obtain ⟨w_before_1, hw_before_1⟩ : ∃ x, w_r_0.alloc (.cells #[.int .i64 before_zone, .int .i64 before_grams, .int .i64 before_from_, .int .i64 before_until_, .int .i64 before_cents] 120) = x := ⟨_, rfl⟩; have bw_before_1 : Below w_r_0.heap.size w_r_0 w_before_1 := (by rw [← hw_before_1]; exact (Below.refl _ _).alloc (Nat.le_refl _) _); have HBw_before_1 := Lib.hid (Below.step HBw_r_0.out bw_before_1); have kr_0_0__843 := cell_below bw_before_1 kr_0_0; have kr_0_1__844 := cell_below bw_before_1 kr_0_1; have kr_0_2__845 := cell_below bw_before_1 kr_0_2; have kr_0_3__846 := cell_below bw_before_1 kr_0_3; have kr_0_4__847 := cell_below bw_before_1 kr_0_4; clear bw_before_1; have kbefore_1_0 : w_before_1.cell? ⟨w_r_0.heap.size, 0, none⟩ = some (.int .i64 before_zone) := (by rw [← hw_before_1]; exact box_new _ _ _ 0 _ rfl); have kbefore_1_1 : w_before_1.cell? ⟨w_r_0.heap.size, 1, none⟩ = some (.int .i64 before_grams) := (by rw [← hw_before_1]; exact box_new _ _ _ 1 _ rfl); have kbefore_1_2 : w_before_1.cell? ⟨w_r_0.heap.size, 2, none⟩ = some (.int .i64 before_from_) := (by rw [← hw_before_1]; exact box_new _ _ _ 2 _ rfl); have kbefore_1_3 : w_before_1.cell? ⟨w_r_0.heap.size, 3, none⟩ = some (.int .i64 before_until_) := (by rw [← hw_before_1]; exact box_new _ _ _ 3 _ rfl); have kbefore_1_4 : w_before_1.cell? ⟨w_r_0.heap.size, 4, none⟩ = some (.int .i64 before_cents) := (by rw [← hw_before_1]; exact box_new _ _ _ 4 _ rfl); go_wp2_with fail; clear kr_0_0 kr_0_1 kr_0_2 kr_0_3 kr_0_4; have Hkr_0_0__843 := Lib.hid kr_0_0__843; replace kr_0_0__843 := cell_regrown kr_0_0__843; have Hkr_0_1__844 := Lib.hid kr_0_1__844; replace kr_0_1__844 := cell_regrown kr_0_1__844; have Hkr_0_2__845 := Lib.hid kr_0_2__845; replace kr_0_2__845 := cell_regrown kr_0_2__845; have Hkr_0_3__846 := Lib.hid kr_0_3__846; replace kr_0_3__846 := cell_regrown kr_0_3__846; have Hkr_0_4__847 := Lib.hid kr_0_4__847; replace kr_0_4__847 := cell_regrown kr_0_4__847; have Hkbefore_1_0 := Lib.hid kbefore_1_0; replace kbefore_1_0 := cell_regrown kbefore_1_0; have Hkbefore_1_1 := Lib.hid kbefore_1_1; replace kbefore_1_1 := cell_regrown kbefore_1_1; have Hkbefore_1_2 := Lib.hid kbefore_1_2; replace kbefore_1_2 := cell_regrown kbefore_1_2; have Hkbefore_1_3 := Lib.hid kbefore_1_3; replace kbefore_1_3 := cell_regrown kbefore_1_3; have Hkbefore_1_4 := Lib.hid kbefore_1_4; replace kbefore_1_4 := cell_regrown kbefore_1_4; replace H := bind_hid H; obtain ⟨t_4, qt_4, H⟩ := H; obtain ⟨t_4_zone, t_4_grams⟩ := t_4; replace H := unrateClass_hid H; have nt_4 : ∀ d os, Calls Try.prog 218 #[.agg #[.int .i64 r_0_zone, .int .i64 r_0_grams, .int .i64 r_0_from_, .int .i64 r_0_until_, .int .i64 r_0_cents]] (Go.Sort.grow (redrawn w_before_1 d) os) fun e w'' => e = .returned (.agg #[.int .i64 t_4_zone, .int .i64 t_4_grams]) ∧ ∃ p : Regrown, w'' = Go.Sort.grow (redrawn w_before_1 p.d) p.os := fun d os => Calls.regrown_of (Go.Proofs.Ytihibckijdfidaa.GiClassOf.C ((Go.Proofs.Ytihibckijdfidaa.PRate.Rate.mk r_0_zone r_0_grams r_0_from_ r_0_until_ r_0_cents))  _    qt_4)
  replace H := bind_hid H; obtain ⟨t_6, qt_6, H⟩ := H; obtain ⟨t_6_zone, t_6_grams⟩ := t_6; replace H := unrateClass_hid H; have nt_6 : ∀ d os, Calls Try.prog 218 #[.agg #[.int .i64 before_zone, .int .i64 before_grams, .int .i64 before_from_, .int .i64 before_until_, .int .i64 before_cents]] (Go.Sort.grow (redrawn w_before_1 d) os) fun e w'' => e = .returned (.agg #[.int .i64 t_6_zone, .int .i64 t_6_grams]) ∧ ∃ p : Regrown, w'' = Go.Sort.grow (redrawn w_before_1 p.d) p.os := fun d os => Calls.regrown_of (Go.Proofs.Ytihibckijdfidaa.GiClassOf.C ((Go.Proofs.Ytihibckijdfidaa.PRate.Rate.mk before_zone before_grams before_from_ before_until_ before_cents))  _    qt_6); replace H := let_hid H; obtain ⟨t_7, ht_7, H⟩ := H; have ct_7 : ∀ W, (binOp .eql 220 (.agg #[.int .i64 t_4_zone, .int .i64 t_4_grams]) (.agg #[.int .i64 t_6_zone, .int .i64 t_6_grams])).run Try.prog W = .ok (.bool t_7) W := fun W => (by rw [eqla_220, ht_7]); refine wp_region_quiet_below (by kernel_rfl) (by kernel_rfl) ?_
  repeat (go_big_quiet_step (first | (go_at_call 218; with_reducible exact nt_4 _ _) | (go_at_call 218; with_reducible exact nt_6 _ _) | (go_at_call 218; exact nt_4 _ _) | (go_at_call 218; exact nt_6 _ _)))
  refine wpQuiet_nil ?_; intro Y1 hY1; replace hY1 := below_class hY1; clear nt_4 nt_6; replace kr_0_0__843 := Hkr_0_0__843.out; clear Hkr_0_0__843; replace kr_0_1__844 := Hkr_0_1__844.out; clear Hkr_0_1__844; replace kr_0_2__845 := Hkr_0_2__845.out; clear Hkr_0_2__845; replace kr_0_3__846 := Hkr_0_3__846.out; clear Hkr_0_3__846; replace kr_0_4__847 := Hkr_0_4__847.out; clear Hkr_0_4__847; replace kbefore_1_0 := Hkbefore_1_0.out; clear Hkbefore_1_0; replace kbefore_1_1 := Hkbefore_1_1.out; clear Hkbefore_1_1; replace kbefore_1_2 := Hkbefore_1_2.out; clear Hkbefore_1_2; replace kbefore_1_3 := Hkbefore_1_3.out; clear Hkbefore_1_3; replace kbefore_1_4 := Hkbefore_1_4.out; clear Hkbefore_1_4; have HBY1 := Lib.hid (Below.step HBw_before_1.out hY1); replace kr_0_0__843 := cell_below hY1 kr_0_0__843; replace kr_0_1__844 := cell_below hY1 kr_0_1__844; replace kr_0_2__845 := cell_below hY1 kr_0_2__845; replace kr_0_3__846 := cell_below hY1 kr_0_3__846; replace kr_0_4__847 := cell_below hY1 kr_0_4__847; replace kbefore_1_0 := cell_below hY1 kbefore_1_0; replace kbefore_1_1 := cell_below hY1 kbefore_1_1; replace kbefore_1_2 := cell_below hY1 kbefore_1_2; replace kbefore_1_3 := cell_below hY1 kbefore_1_3; replace kbefore_1_4 := cell_below hY1 kbefore_1_4; clear hY1
  cases t_7 with
  | false =>
    replace H := ite_f H; go_wp2_with fail; have bd3 : Below Y1.heap.size Y1 Y1.drew := (Below.refl _ _).drew; have HBY1.drew := Lib.hid (Below.step HBY1.out bd3); replace kr_0_0__843 := cell_below bd3 kr_0_0__843; replace kr_0_1__844 := cell_below bd3 kr_0_1__844; replace kr_0_2__845 := cell_below bd3 kr_0_2__845; replace kr_0_3__846 := cell_below bd3 kr_0_3__846; replace kr_0_4__847 := cell_below bd3 kr_0_4__847; replace kbefore_1_0 := cell_below bd3 kbefore_1_0; replace kbefore_1_1 := cell_below bd3 kbefore_1_1; replace kbefore_1_2 := cell_below bd3 kbefore_1_2; replace kbefore_1_3 := cell_below bd3 kbefore_1_3; replace kbefore_1_4 := cell_below bd3 kbefore_1_4; clear bd3; replace H := bind_hid H; obtain ⟨t_18, qt_18, H⟩ := H; replace H := bind_hid H; obtain ⟨t_23, qt_23, H⟩ := H; replace H := let_hid H; obtain ⟨t_24, ht_24, H⟩ := H; replace H := bind_hid H; obtain ⟨t_25, qt_25, H⟩ := H; replace H := let_hid H; obtain ⟨t_26, ht_26, H⟩ := H
    go_region_held3 (fun w' => w'.cell? ⟨w.heap.size, 0, none⟩ = some (.int .i64 r_0_zone) ∧ w'.cell? ⟨w.heap.size, 1, none⟩ = some (.int .i64 r_0_grams) ∧ w'.cell? ⟨w.heap.size, 2, none⟩ = some (.int .i64 r_0_from_) ∧ w'.cell? ⟨w.heap.size, 3, none⟩ = some (.int .i64 r_0_until_) ∧ w'.cell? ⟨w.heap.size, 4, none⟩ = some (.int .i64 r_0_cents) ∧ w'.cell? ⟨w_r_0.heap.size, 0, none⟩ = some (.int .i64 before_zone) ∧ w'.cell? ⟨w_r_0.heap.size, 1, none⟩ = some (.int .i64 before_grams) ∧ w'.cell? ⟨w_r_0.heap.size, 2, none⟩ = some (.int .i64 before_from_) ∧ w'.cell? ⟨w_r_0.heap.size, 3, none⟩ = some (.int .i64 before_until_) ∧ w'.cell? ⟨w_r_0.heap.size, 4, none⟩ = some (.int .i64 before_cents)) (first | exact ⟨kr_0_0__843, kr_0_1__844, kr_0_2__845, kr_0_3__846, kr_0_4__847, kbefore_1_0, kbefore_1_1, kbefore_1_2, kbefore_1_3, kbefore_1_4⟩ | exact ⟨kr_0_0__848, kr_0_1__849, kr_0_2__850, kr_0_3__851, kr_0_4__852, kbefore_1_0__853, kbefore_1_1__854, kbefore_1_2__855, kbefore_1_3__856, kbefore_1_4__857⟩)
        (first
          | (go_at_call 100
             refine (Go.Proofs.Ytihibckijdfidaa.GxCmpCompareInt.C (before_zone) (r_0_zone)  _    qt_18).mono ?_; rintro e_t_18 wt_18 ⟨rfl, bt_18⟩; have HBwt_18 := Lib.hid (Below.step HBY1.drew.out bt_18); replace kr_0_0__843 := cell_below bt_18 kr_0_0__843; replace kr_0_1__844 := cell_below bt_18 kr_0_1__844; replace kr_0_2__845 := cell_below bt_18 kr_0_2__845; replace kr_0_3__846 := cell_below bt_18 kr_0_3__846; replace kr_0_4__847 := cell_below bt_18 kr_0_4__847; replace kbefore_1_0 := cell_below bt_18 kbefore_1_0; replace kbefore_1_1 := cell_below bt_18 kbefore_1_1; replace kbefore_1_2 := cell_below bt_18 kbefore_1_2; replace kbefore_1_3 := cell_below bt_18 kbefore_1_3; replace kbefore_1_4 := cell_below bt_18 kbefore_1_4; clear bt_18
             clear qt_18)
          | (go_at_call 100
             refine (Go.Proofs.Ytihibckijdfidaa.GxCmpCompareInt.C (before_grams) (r_0_grams)  _    qt_23).mono ?_; rintro e_t_23 wt_23 ⟨rfl, bt_23⟩; have HBwt_23 := Lib.hid (Below.step HBwt_18.out bt_23); replace kr_0_0__843 := cell_below bt_23 kr_0_0__843; replace kr_0_1__844 := cell_below bt_23 kr_0_1__844; replace kr_0_2__845 := cell_below bt_23 kr_0_2__845; replace kr_0_3__846 := cell_below bt_23 kr_0_3__846; replace kr_0_4__847 := cell_below bt_23 kr_0_4__847; replace kbefore_1_0 := cell_below bt_23 kbefore_1_0; replace kbefore_1_1 := cell_below bt_23 kbefore_1_1; replace kbefore_1_2 := cell_below bt_23 kbefore_1_2; replace kbefore_1_3 := cell_below bt_23 kbefore_1_3; replace kbefore_1_4 := cell_below bt_23 kbefore_1_4; clear bt_23; clear qt_23; obtain ⟨w_t_24, hw_t_24⟩ : ∃ x, wt_23.alloc (.cells #[.int .i64 t_18, .int .i64 t_23] 3) = x := ⟨_, rfl⟩; have bw_t_24 : Below wt_23.heap.size wt_23 w_t_24 := (by rw [← hw_t_24]; exact (Below.refl _ _).alloc (Nat.le_refl _) _); have hs_t_24 := HBwt_23.out.size; have nt_24 : t_24.length = 2 := (by rw [← ht_24]; rfl)
             have Ot_24 : Hid (w_t_24.ownsRow w.heap.size 3 1 (.slice (some ⟨wt_23.heap.size, 0, none⟩) 2 2) 2 (Go.Proofs.Ytihibckijdfidaa.HelpInt.iv t_24)) := by
               rw [← hw_t_24, ← ht_24]; have e_ : ([.int .i64 t_18, .int .i64 t_23] : List Value) = (Go.Proofs.Ytihibckijdfidaa.HelpInt.iv ([t_18, t_23] : List Int)) := rfl; exact Lib.hid (own_laid (n := 2) hs_t_24 e_ rfl (by unfold maxLen; omega))
             clear hs_t_24; have hht_24 := Lib.hid ht_24; clear ht_24; replace nt_24 := Lib.hid nt_24; have Dt_24_r_0 := Lib.hid (apart_box kr_0_0__843); have Dt_24_before_1 := Lib.hid (apart_box kbefore_1_0); have HBw_t_24 := Lib.hid (Below.step HBwt_23.out bw_t_24); have kr_0_0__848 := cell_below bw_t_24 kr_0_0__843; have kr_0_1__849 := cell_below bw_t_24 kr_0_1__844; have kr_0_2__850 := cell_below bw_t_24 kr_0_2__845; have kr_0_3__851 := cell_below bw_t_24 kr_0_3__846; have kr_0_4__852 := cell_below bw_t_24 kr_0_4__847; have kbefore_1_0__853 := cell_below bw_t_24 kbefore_1_0; have kbefore_1_1__854 := cell_below bw_t_24 kbefore_1_1; have kbefore_1_2__855 := cell_below bw_t_24 kbefore_1_2; have kbefore_1_3__856 := cell_below bw_t_24 kbefore_1_3; have kbefore_1_4__857 := cell_below bw_t_24 kbefore_1_4
             clear bw_t_24)
          | (have hc0_ := nt_24.out
             have Oct_25_1 := Lib.hid (own_len hc0_ Ot_24.out); have con_ := Go.Proofs.Ytihibckijdfidaa.GxCmpOrInt.C (t_24) (some ⟨wt_23.heap.size, 0, none⟩) 2 _   (Lib.hid (own_cells Oct_25_1.out)) (Lib.hid (own_max Oct_25_1.out)) qt_25; rw [hc0_] at con_; clear hc0_ Oct_25_1; go_at_call 99; refine con_.mono ?_; rintro e_t_25 wt_25 ⟨rfl, bt_25⟩; have HBwt_25 := Lib.hid (Below.step HBw_t_24.out bt_25); replace kr_0_0__848 := cell_below bt_25 kr_0_0__848; replace kr_0_1__849 := cell_below bt_25 kr_0_1__849; replace kr_0_2__850 := cell_below bt_25 kr_0_2__850; replace kr_0_3__851 := cell_below bt_25 kr_0_3__851; replace kr_0_4__852 := cell_below bt_25 kr_0_4__852; replace kbefore_1_0__853 := cell_below bt_25 kbefore_1_0__853; replace kbefore_1_1__854 := cell_below bt_25 kbefore_1_1__854; replace kbefore_1_2__855 := cell_below bt_25 kbefore_1_2__855; replace kbefore_1_3__856 := cell_below bt_25 kbefore_1_3__856; replace kbefore_1_4__857 := cell_below bt_25 kbefore_1_4__857; replace Ot_24 := Lib.hid (own_below Ot_24.out bt_25); clear bt_25
             clear qt_25))
    try clear kr_0_0__843
    try clear kr_0_1__844
    try clear kr_0_2__845
    try clear kr_0_3__846
    try clear kr_0_4__847
    try clear kbefore_1_0
    try clear kbefore_1_1
    try clear kbefore_1_2
    try clear kbefore_1_3
    try clear kbefore_1_4
    obtain rfl := ret_hid H; go_wp2_with fail; go_ret; exact ⟨rfl, HBwt_25.out⟩
  | true =>
    replace H := ite_t H; replace H := let_hid H; obtain ⟨t_12, ht_12, H⟩ := H; obtain rfl := ret_hid H; go_wp2_with fail; go_ret; exact ⟨rfl, HBY1.out⟩
end Go.Proofs.Ytihibckijdfidaa.GiCanFollow

