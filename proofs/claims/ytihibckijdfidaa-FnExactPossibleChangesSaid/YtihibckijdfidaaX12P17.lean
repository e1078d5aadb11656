/- Texts on which the proofs of several laws stand, one behind the other (17 of 24). No condition of their own. -/
import Derived.Test.YtihibckijdfidaaChecked
import Derived.Test.YtihibckijdfidaaX12P1
import Derived.WalkKit
import Derived.WalkSpells
import Derived.WalkLawsBesides
import Derived.BigQuiet
import Derived.OwnWalk
import Derived.Deep.LoopGhost
import Derived.Deep.QuietTactic
import Derived.IntWalk
import Derived.Lib.QuietBelow
import Derived.Test.YtihibckijdfidaaX12P2
import Derived.Test.YtihibckijdfidaaX12P10
import Derived.Test.YtihibckijdfidaaX12P4
import Derived.Deep.RegionHeld3
import Derived.Test.YtihibckijdfidaaX12P11
set_option linter.unusedVariables false
set_option linter.unusedSimpArgs false
namespace Go.Proofs.Ytihibckijdfidaa.GlEqIntS
open Go.RowKit
open Go.Proofs.Ytihibckijdfidaa.Rowed Go.Proofs.Ytihibckijdfidaa.Turn Go.Proofs.Ytihibckijdfidaa.Aid Go.Proofs.Ytihibckijdfidaa.GoP Go.Proofs.Ytihibckijdfidaa.GoM

def l0 (a : (List Int)) (b : (List Int)) (k0 : Nat) (s : Unit) (nx0 bk0 : Unit → Option (Bool)) : Option (Bool) :=
 
 Option.bind (idx a (k0 : Int)) fun (yt_14 : Int) =>
 Option.bind (idx b (k0 : Int)) fun (yt_18 : Int) =>
 letK (yt_14 != yt_18) fun (t_20 : Bool) =>
 iteK t_20
 (some false)
 (appK nx0 ())

def e0  (s : Unit) : Option (Bool) :=
 
 some true

def P (a : (List Int)) (b : (List Int)) : Option (Bool) :=
 letK ((a.length : Int) != (b.length : Int)) fun (t_5 : Bool) =>
 iteK t_5
 (some false)
 (cntK (l0 a b) (a.length) 0 () (e0 ))

set_option maxRecDepth 100000 in
set_option maxHeartbeats 2000000 in
theorem C (a : (List Int)) (b : (List Int)) (A0 : Option Addr) (c0 : Nat) (A1 : Option Addr) (c1 : Nat)  (w : World) (M0 : Hid (Cells w 1 A0 a.length (HelpInt.iv a))) (N0 : Hid (a.length ≤ 9223372036854775807)) (M1 : Hid (Cells w 1 A1 b.length (HelpInt.iv b))) (N1 : Hid (b.length ≤ 9223372036854775807))  {r : Bool} (H : Hid (P a b = some r)) :
  Calls Try.prog 26 #[.slice A0 a.length c0, .slice A1 b.length c1] w (Gives (.bool r) w) := by
 have HB := Lib.hid (Below.refl w.heap.size w); unfold P at H; have N0o := N0.out; have N1o := N1.out
 go_enter Try.func26, Try.ntmps26
 replace H := let_hid H; obtain ⟨t_5, ht_5, H⟩ := H
 cases t_5 with
 | false =>
  have k10 : Hid (a.length = b.length) := Lib.hid (by have := bne_eq_false_iff_eq.1 ht_5; omega); have l10 : (a.length == b.length) = true := beq_iff_eq.2 k10.out; replace H := ite_f H; go_wp2_with fail; go_loopg [5] (a.length) (fun m_ v5_ wr => ∃ (k0 : Nat) , k0 + m_ = a.length ∧ v5_ = .int .i64 (k0 : Int) ∧ Hid (cntK (l0 a b) m_ k0 () (e0 ) = some r) ∧ Hid (Below w.heap.size w wr))
  case atStart => exact ⟨0, by omega, rfl, H, HB⟩
  case round =>
   obtain ⟨k0, hkm0, rfl, H, c10⟩ := hrel; rename World => wr0
   cases gk with
   | zero =>
    obtain rfl : k0 = a.length := (by omega); have hc0 : decide (((a.length : Nat) : Int) < ((a.length : Nat) : Int)) = false := (by simp); replace H := cnt_zero H; unfold e0 at H; obtain rfl := ret_hid H; go_wp2_with fail; go_ret; exact ⟨rfl, c10.out⟩
   | succ m0 =>
    have hlt0 : k0 < a.length := (by omega); have hc0 : decide ((k0 : Int) < ((a.length : Nat) : Int)) = true := (by simp; omega); replace H := cnt_succ H; unfold l0 at H; go_wp2_with fail; replace H := idx_hid H; obtain ⟨j10, k11, r10, m10, s10, H⟩ := H; obtain rfl : k0 = j10 := (by omega); clear r10; obtain ⟨f11, i11, j11, i10, e10, a10⟩ := HelpInt.Ints.at_ M0.out m10; obtain rfl := Option.some.inj (s10.out.symm.trans e10); subst i10; have d11 := cell_lt a10; replace a10 := cell_below c10.out a10; clear e10; have v10 : (0 : Int) ≤ (k0 : Int) := (by omega); have g11 : (k0 : Int) < ((a.length : Nat) : Int) := (by omega); have x10 : ((k0 : Int)).toNat = k0 := (by omega); have d10 := Lib.hid a10; replace a10 := cell_regrown a10; replace H := idx_hid H; obtain ⟨h10, w10, o10, p10, q10, H⟩ := H; obtain rfl : k0 = h10 := (by omega); clear o10; obtain ⟨b11, c11, z10, n10, f10, b10⟩ := HelpInt.Ints.at_ M1.out p10; obtain rfl := Option.some.inj (q10.out.symm.trans f10); subst n10; have t10 := cell_lt b10; replace b10 := cell_below c10.out b10; clear f10; have y10 : (0 : Int) ≤ (k0 : Int) := (by omega); have e11 : (k0 : Int) < ((b.length : Nat) : Int) := (by omega); have a11 : ((k0 : Int)).toNat = k0 := (by omega); have g10 := Lib.hid b10; replace b10 := cell_regrown b10; replace H := let_hid H; obtain ⟨t_20, h11, H⟩ := H; refine wp_region_quiet_below (by kernel_rfl) (by kernel_rfl) ?_
    repeat (go_big_quiet_step (fail))
    refine wpQuiet_nil ?_; intro Y6 hY6; replace hY6 := below_class hY6; replace a10 := d10.out; clear d10; replace b10 := g10.out; clear g10; have HBY6 := Lib.hid (Below.step c10.out hY6); replace a10 := cell_below hY6 a10; replace b10 := cell_below hY6 b10; clear hY6
    cases t_20 with
    | false =>
     replace H := ite_f H; replace H := app_hid H; go_wp2_with fail
     go_roundg m0
     case measure => omega
     case rel => exact ⟨k0 + 1, by omega, by go_num, H, HBY6⟩
    | true =>
     replace H := ite_t H; obtain rfl := ret_hid H; go_wp2_with fail; go_ret; exact ⟨rfl, HBY6.out⟩
 | true =>
  have l10 : ¬ (a.length = b.length) := (by have := bne_iff_ne.1 ht_5; omega); replace H := ite_t H; obtain rfl := ret_hid H; go_wp2_with fail; go_ret; exact ⟨rfl, HB.out⟩
end Go.Proofs.Ytihibckijdfidaa.GlEqIntS

namespace Go.Proofs.Ytihibckijdfidaa.GlMarkRateS
open Go.RowKit
open Go.Proofs.Ytihibckijdfidaa.Rowed Go.Proofs.Ytihibckijdfidaa.Turn Go.Proofs.Ytihibckijdfidaa.Aid Go.Proofs.Ytihibckijdfidaa.GoP Go.Proofs.Ytihibckijdfidaa.GoM

def l0  (k0 : Nat) (s : (List PRate.Rate) × Int) (nx0 bk0 : (List PRate.Rate) × Int → Option (Int × (List PRate.Rate))) : Option (Int × (List PRate.Rate)) :=
 unp2 s fun a_0l0 k_1l0 =>
 Option.bind (idx a_0l0 (k0 : Int)) fun (yt_9 : PRate.Rate) =>
 unRate yt_9 fun (t_9_zone : Int) (t_9_grams : Int) (t_9_from_ : Int) (t_9_until_ : Int) (t_9_cents : Int) =>
 letK (a_0l0.set k0 (PRate.Rate.mk k_1l0 t_9_grams t_9_from_ t_9_until_ t_9_cents)) fun (l11_11 : (List PRate.Rate)) =>
 letK (IntKind.i64.wrap (k_1l0 + 1)) fun (t_13 : Int) =>
 Option.bind (idx l11_11 (k0 : Int)) fun (yt_18 : PRate.Rate) =>
 unRate yt_18 fun (t_18_zone : Int) (t_18_grams : Int) (t_18_from_ : Int) (t_18_until_ : Int) (t_18_cents : Int) =>
 letK (l11_11.set k0 (PRate.Rate.mk t_18_zone t_13 t_18_from_ t_18_until_ t_18_cents)) fun (l20_20 : (List PRate.Rate)) =>
 letK (IntKind.i64.wrap (t_13 + 1)) fun (t_22 : Int) =>
 Option.bind (idx l20_20 (k0 : Int)) fun (yt_27 : PRate.Rate) =>
 unRate yt_27 fun (t_27_zone : Int) (t_27_grams : Int) (t_27_from_ : Int) (t_27_until_ : Int) (t_27_cents : Int) =>
 letK (l20_20.set k0 (PRate.Rate.mk t_27_zone t_27_grams t_22 t_27_until_ t_27_cents)) fun (l29_29 : (List PRate.Rate)) =>
 letK (IntKind.i64.wrap (t_22 + 1)) fun (t_31 : Int) =>
 Option.bind (idx l29_29 (k0 : Int)) fun (yt_36 : PRate.Rate) =>
 unRate yt_36 fun (t_36_zone : Int) (t_36_grams : Int) (t_36_from_ : Int) (t_36_until_ : Int) (t_36_cents : Int) =>
 letK (l29_29.set k0 (PRate.Rate.mk t_36_zone t_36_grams t_36_from_ t_31 t_36_cents)) fun (l38_38 : (List PRate.Rate)) =>
 letK (IntKind.i64.wrap (t_31 + 1)) fun (t_40 : Int) =>
 Option.bind (idx l38_38 (k0 : Int)) fun (yt_45 : PRate.Rate) =>
 unRate yt_45 fun (t_45_zone : Int) (t_45_grams : Int) (t_45_from_ : Int) (t_45_until_ : Int) (t_45_cents : Int) =>
 letK (l38_38.set k0 (PRate.Rate.mk t_45_zone t_45_grams t_45_from_ t_45_until_ t_40)) fun (l47_47 : (List PRate.Rate)) =>
 letK (IntKind.i64.wrap (t_40 + 1)) fun (t_49 : Int) =>
 appK nx0 (l47_47, t_49)

def e0  (s : (List PRate.Rate) × Int) : Option (Int × (List PRate.Rate)) :=
 unp2 s fun a_0l0 k_1l0 =>
 some (k_1l0, a_0l0)

def P (a : (List PRate.Rate)) (k_1 : Int) : Option (Int × (List PRate.Rate)) :=
 cntK (l0 ) (a.length) 0 (a, k_1) (e0 )

set_option maxRecDepth 100000 in
set_option maxHeartbeats 2000000 in
theorem C (a : (List PRate.Rate)) (k_1 : Int) (A0 : Option Addr) (c0 : Nat)  (b0 : Nat) (w : World) (M0 : Hid (w.ownsRow b0 120 5 (.slice A0 a.length c0) a.length (PRate.flat a))) (N0 : Hid (a.length ≤ 9223372036854775807))  {r : Int} {l_ : (List PRate.Rate)} (H : Hid (P a k_1 = some (r, l_))) :
  Calls Try.prog 27 #[.slice A0 a.length c0, .int .i64 k_1] w (fun e w' => e = .returned (.int .i64 r) ∧ w'.ownsRow b0 120 5 (.slice A0 a.length c0) a.length (PRate.flat l_) ∧ l_.length = a.length ∧ w.grownBy w' (Value.slice A0 a.length c0).ownBlock) := by
 have HB := Lib.hid (Aid.grown_refl w (Value.slice A0 a.length c0).ownBlock); unfold P at H; have N0o := N0.out
 go_enter Try.func27, Try.ntmps27
 go_wp2_with fail; have hb_0 : a.length ≤ 9223372036854775807 := own_max M0.out; go_wp2_with fail; go_loopg [5, 1] (a.length) (fun m_ v5_ v1_ wr => ∃ (k0 : Nat) (c10 : (List PRate.Rate)) (a10 : Int), k0 + m_ = a.length ∧ v5_ = .int .i64 (k0 : Int) ∧ v1_ = .int .i64 a10 ∧ Hid (cntK (l0 ) m_ k0 (c10, a10) (e0 ) = some (r, l_)) ∧ Hid (w.grownBy wr (Value.slice A0 a.length c0).ownBlock) ∧ Hid (wr.ownsRow b0 120 5 (.slice A0 a.length c0) a.length (PRate.flat c10)) ∧ Hid (c10.length = a.length))
 case atStart => exact ⟨0, _, _, by omega, rfl, rfl, H, HB, M0, Lib.hid (rfl)⟩
 case round =>
  obtain ⟨k0, c10, a10, hkm0, rfl, rfl, H, q11, b10, w10⟩ := hrel; rename World => wr0
  cases gk with
  | zero =>
   obtain rfl : k0 = a.length := (by omega); have hc0 : decide (((a.length : Nat) : Int) < ((a.length : Nat) : Int)) = false := (by simp); replace H := cnt_zero H; unfold e0 at H; replace H := unp2_hid H; cases ret_hid H; go_wp2_with fail; go_ret; exact ⟨rfl, b10.out, w10.out, q11.out⟩
  | succ m0 =>
   have hlt0 : k0 < a.length := (by omega); have hc0 : decide ((k0 : Int) < ((a.length : Nat) : Int)) = true := (by simp; omega); replace H := cnt_succ H; unfold l0 at H; replace H := unp2_hid H; replace H := idx_hid H; obtain ⟨nt_9, yt_9, et_9, lt_9, gt_9, H⟩ := H; obtain rfl : k0 = nt_9 := (by omega); clear et_9; obtain ⟨o14, b12, y12, p13, c11⟩ := yt_9; replace H := unRate_hid H; have c14 := w10.out; obtain ⟨qt_9, Qt_9⟩ := own_some b10.out (by omega); subst Qt_9; obtain ⟨w15, o15, zt_9, At_9, l11, g12, m12, h12, r11, p11⟩ := ORate.at_ (own_cells b10.out) (k := k0) (by omega); obtain rfl := Option.some.inj (gt_9.out.symm.trans l11); simp only [Option.some.injEq, Addr.mk.injEq] at At_9; obtain ⟨rfl, rfl, _⟩ := At_9; clear l11; simp only [Nat.zero_add] at g12 m12 h12 r11 p11; have l16 : (0 : Int) ≤ (k0 : Int) := (by omega); have w16 : (k0 : Int) < ((a.length : Nat) : Int) := (by omega); have q15 : ((k0 : Int)).toNat = k0 := (by omega); clear c14; replace H := let_hid H; obtain ⟨f10, j10, H⟩ := H
   try simp only [Int.toNat_natCast] at j10
   obtain ⟨s10, g13⟩ : ∃ x, (wr0).setCell ⟨qt_9, k0 * 5, none⟩ (.int .i64 a10) = x := ⟨_, rfl⟩; have m14 := b10.out.frozenAt (k0 * 5); have b11 := Lib.hid (own_stores [(k0 * 5, .int .i64 a10)] b10.out); have z12 : Hid (f10.length = a.length) := Lib.hid (by rw [← j10, List.length_set]; exact w10.out); have q10 : Hid (s10.ownsRow b0 120 5 (.slice (some ⟨qt_9, 0, none⟩) a.length c0) a.length (PRate.flat f10)) := Lib.hid (by have es_ := set_self gt_9.out; have e0_ := flat_set PRate.Rate.cells 5 (fun _ => rfl) c10 (k0) 0 (PRate.Rate.mk o14 b12 y12 p13 c11) (PRate.Rate.mk a10 b12 y12 p13 c11) (.int .i64 a10) lt_9 (by decide) rfl; rw [es_] at e0_; have e_ : ([(k0 * 5, .int .i64 a10)] : List (Nat × Value)).foldl (fun xs p => xs.set p.1 p.2) (PRate.flat c10) = (PRate.flat f10) := (by rw [← j10]; show _ = List.flatMap PRate.Rate.cells _; first | (rw [← e0_]; first | done | rfl)); rw [← g13, ← e_]; exact b11.out.1); have h13 : Hid (wr0.grownBy s10 (Value.slice (some ⟨qt_9, 0, none⟩) a.length c0).ownBlock) := Lib.hid (by rw [← g13]; exact b11.out.2); have f14 := Lib.hid (Aid.grown_tr q11.out h13.out); have m16 := Lib.hid j10; clear j10 b11; clear b10 h13; replace H := let_hid H; obtain ⟨t_13, s15, H⟩ := H; replace H := idx_hid H; obtain ⟨n14, q14, d15, a15, e13, H⟩ := H; obtain rfl : k0 = n14 := (by omega); clear d15; obtain ⟨w12, k14, s11, g11, a14⟩ := q14; replace H := unRate_hid H; have z14 := z12.out; obtain ⟨q16, x16, b17, n11, r13, k12, l12, q13, h11, d13⟩ := ORate.at_ (own_cells q10.out) (k := k0) (by omega); obtain rfl := Option.some.inj (e13.out.symm.trans r13); simp only [Option.some.injEq, Addr.mk.injEq] at n11; obtain ⟨rfl, rfl, _⟩ := n11; clear r13; simp only [Nat.zero_add] at k12 l12 q13 h11 d13; have y15 : (0 : Int) ≤ (k0 : Int) := (by omega); have r16 : (k0 : Int) < ((a.length : Nat) : Int) := (by omega); have o16 : ((k0 : Int)).toNat = k0 := (by omega); clear z14; replace H := let_hid H; obtain ⟨l10, e10, H⟩ := H
   try simp only [Int.toNat_natCast] at e10
   obtain ⟨r10, d12⟩ : ∃ x, (s10).setCell ⟨qt_9, k0 * 5 + 1, none⟩ (.int .i64 t_13) = x := ⟨_, rfl⟩; have p14 := q10.out.frozenAt (k0 * 5 + 1); have y10 := Lib.hid (own_stores [(k0 * 5 + 1, .int .i64 t_13)] q10.out); have r12 : Hid (l10.length = a.length) := Lib.hid (by rw [← e10, List.length_set]; exact z12.out); have t10 : Hid (r10.ownsRow b0 120 5 (.slice (some ⟨qt_9, 0, none⟩) a.length c0) a.length (PRate.flat l10)) := Lib.hid (by have es_ := set_self e13.out; have e0_ := flat_set PRate.Rate.cells 5 (fun _ => rfl) f10 (k0) 1 (PRate.Rate.mk w12 k14 s11 g11 a14) (PRate.Rate.mk w12 t_13 s11 g11 a14) (.int .i64 t_13) a15 (by decide) rfl; rw [es_] at e0_; have e_ : ([(k0 * 5 + 1, .int .i64 t_13)] : List (Nat × Value)).foldl (fun xs p => xs.set p.1 p.2) (PRate.flat f10) = (PRate.flat l10) := (by rw [← e10]; show _ = List.flatMap PRate.Rate.cells _; first | (rw [← e0_]; first | done | rfl)); rw [← d12, ← e_]; exact y10.out.1); have i12 : Hid (s10.grownBy r10 (Value.slice (some ⟨qt_9, 0, none⟩) a.length c0).ownBlock) := Lib.hid (by rw [← d12]; exact y10.out.2); have t14 := Lib.hid (Aid.grown_tr f14.out i12.out); have c17 := Lib.hid e10; clear e10 y10; clear q10 i12; replace H := let_hid H; obtain ⟨t_22, v16, H⟩ := H; replace H := idx_hid H; obtain ⟨i14, v14, k15, w14, o13, H⟩ := H; obtain rfl : k0 = i14 := (by omega); clear k15; obtain ⟨s12, e11, b15, k11, x12⟩ := v14; replace H := unRate_hid H; have h15 := r12.out; obtain ⟨z16, y16, b16, o11, d11, x11, v12, q12, j13, l13⟩ := ORate.at_ (own_cells t10.out) (k := k0) (by omega); obtain rfl := Option.some.inj (o13.out.symm.trans d11); simp only [Option.some.injEq, Addr.mk.injEq] at o11; obtain ⟨rfl, rfl, _⟩ := o11; clear d11; simp only [Nat.zero_add] at x11 v12 q12 j13 l13; have t15 : (0 : Int) ≤ (k0 : Int) := (by omega); have g16 : (k0 : Int) < ((a.length : Nat) : Int) := (by omega); have x15 : ((k0 : Int)).toNat = k0 := (by omega); clear h15; replace H := let_hid H; obtain ⟨h10, i10, H⟩ := H
   try simp only [Int.toNat_natCast] at i10
   obtain ⟨m10, a12⟩ : ∃ x, (r10).setCell ⟨qt_9, k0 * 5 + 2, none⟩ (.int .i64 t_22) = x := ⟨_, rfl⟩; have j14 := t10.out.frozenAt (k0 * 5 + 2); have v10 := Lib.hid (own_stores [(k0 * 5 + 2, .int .i64 t_22)] t10.out); have n13 : Hid (h10.length = a.length) := Lib.hid (by rw [← i10, List.length_set]; exact r12.out); have o10 : Hid (m10.ownsRow b0 120 5 (.slice (some ⟨qt_9, 0, none⟩) a.length c0) a.length (PRate.flat h10)) := Lib.hid (by have es_ := set_self o13.out; have e0_ := flat_set PRate.Rate.cells 5 (fun _ => rfl) l10 (k0) 2 (PRate.Rate.mk s12 e11 b15 k11 x12) (PRate.Rate.mk s12 e11 t_22 k11 x12) (.int .i64 t_22) w14 (by decide) rfl; rw [es_] at e0_; have e_ : ([(k0 * 5 + 2, .int .i64 t_22)] : List (Nat × Value)).foldl (fun xs p => xs.set p.1 p.2) (PRate.flat l10) = (PRate.flat h10) := (by rw [← i10]; show _ = List.flatMap PRate.Rate.cells _; first | (rw [← e0_]; first | done | rfl)); rw [← a12, ← e_]; exact v10.out.1); have f11 : Hid (r10.grownBy m10 (Value.slice (some ⟨qt_9, 0, none⟩) a.length c0).ownBlock) := Lib.hid (by rw [← a12]; exact v10.out.2); have g15 := Lib.hid (Aid.grown_tr t14.out f11.out); have p16 := Lib.hid i10; clear i10 v10; clear t10 f11; replace H := let_hid H; obtain ⟨t_31, r15, H⟩ := H; replace H := idx_hid H; obtain ⟨j15, b14, e14, m15, z11, H⟩ := H; obtain rfl : k0 = j15 := (by omega); clear e14; obtain ⟨j11, z13, m13, l15, t11⟩ := b14; replace H := unRate_hid H; have c15 := n13.out; obtain ⟨n16, t16, z15, f13, f12, v13, a13, i11, w13, w11⟩ := ORate.at_ (own_cells o10.out) (k := k0) (by omega); obtain rfl := Option.some.inj (z11.out.symm.trans f12); simp only [Option.some.injEq, Addr.mk.injEq] at f13; obtain ⟨rfl, rfl, _⟩ := f13; clear f12; simp only [Nat.zero_add] at v13 a13 i11 w13 w11; have h16 : (0 : Int) ≤ (k0 : Int) := (by omega); have k16 : (k0 : Int) < ((a.length : Nat) : Int) := (by omega); have s16 : ((k0 : Int)).toNat = k0 := (by omega); clear c15; replace H := let_hid H; obtain ⟨d10, g10, H⟩ := H
   try simp only [Int.toNat_natCast] at g10
   obtain ⟨n10, m11⟩ : ∃ x, (m10).setCell ⟨qt_9, k0 * 5 + 3, none⟩ (.int .i64 t_31) = x := ⟨_, rfl⟩; have e15 := o10.out.frozenAt (k0 * 5 + 3); have x10 := Lib.hid (own_stores [(k0 * 5 + 3, .int .i64 t_31)] o10.out); have y13 : Hid (d10.length = a.length) := Lib.hid (by rw [← g10, List.length_set]; exact n13.out); have p10 : Hid (n10.ownsRow b0 120 5 (.slice (some ⟨qt_9, 0, none⟩) a.length c0) a.length (PRate.flat d10)) := Lib.hid (by have es_ := set_self z11.out; have e0_ := flat_set PRate.Rate.cells 5 (fun _ => rfl) h10 (k0) 3 (PRate.Rate.mk j11 z13 m13 l15 t11) (PRate.Rate.mk j11 z13 m13 t_31 t11) (.int .i64 t_31) m15 (by decide) rfl; rw [es_] at e0_; have e_ : ([(k0 * 5 + 3, .int .i64 t_31)] : List (Nat × Value)).foldl (fun xs p => xs.set p.1 p.2) (PRate.flat h10) = (PRate.flat d10) := (by rw [← g10]; show _ = List.flatMap PRate.Rate.cells _; first | (rw [← e0_]; first | done | rfl)); rw [← m11, ← e_]; exact x10.out.1); have c13 : Hid (m10.grownBy n10 (Value.slice (some ⟨qt_9, 0, none⟩) a.length c0).ownBlock) := Lib.hid (by rw [← m11]; exact x10.out.2); have d14 := Lib.hid (Aid.grown_tr g15.out c13.out); have a17 := Lib.hid g10; clear g10 x10; clear o10 c13; replace H := let_hid H; obtain ⟨t_40, a16, H⟩ := H; replace H := idx_hid H; obtain ⟨h14, g14, s14, x14, x13, H⟩ := H; obtain rfl : k0 = h14 := (by omega); clear s14; obtain ⟨b13, k13, i13, y11, f15⟩ := g14; replace H := unRate_hid H; have i15 := y13.out; obtain ⟨p15, j16, f16, s13, j12, v11, n12, o12, e12, c12⟩ := ORate.at_ (own_cells p10.out) (k := k0) (by omega); obtain rfl := Option.some.inj (x13.out.symm.trans j12); simp only [Option.some.injEq, Addr.mk.injEq] at s13; obtain ⟨rfl, rfl, _⟩ := s13; clear j12; simp only [Nat.zero_add] at v11 n12 o12 e12 c12; have d16 : (0 : Int) ≤ (k0 : Int) := (by omega); have e16 : (k0 : Int) < ((a.length : Nat) : Int) := (by omega); have c16 : ((k0 : Int)).toNat = k0 := (by omega); clear i15; replace H := let_hid H; obtain ⟨a11, k10, H⟩ := H
   try simp only [Int.toNat_natCast] at k10
   obtain ⟨p12, t12⟩ : ∃ x, (n10).setCell ⟨qt_9, k0 * 5 + 4, none⟩ (.int .i64 t_40) = x := ⟨_, rfl⟩; have r14 := p10.out.frozenAt (k0 * 5 + 4); have z10 := Lib.hid (own_stores [(k0 * 5 + 4, .int .i64 t_40)] p10.out); have y14 : Hid (a11.length = a.length) := Lib.hid (by rw [← k10, List.length_set]; exact y13.out); have l14 : Hid (p12.ownsRow b0 120 5 (.slice (some ⟨qt_9, 0, none⟩) a.length c0) a.length (PRate.flat a11)) := Lib.hid (by have es_ := set_self x13.out; have e0_ := flat_set PRate.Rate.cells 5 (fun _ => rfl) d10 (k0) 4 (PRate.Rate.mk b13 k13 i13 y11 f15) (PRate.Rate.mk b13 k13 i13 y11 t_40) (.int .i64 t_40) x14 (by decide) rfl; rw [es_] at e0_; have e_ : ([(k0 * 5 + 4, .int .i64 t_40)] : List (Nat × Value)).foldl (fun xs p => xs.set p.1 p.2) (PRate.flat d10) = (PRate.flat a11) := (by rw [← k10]; show _ = List.flatMap PRate.Rate.cells _; first | (rw [← e0_]; first | done | rfl)); rw [← t12, ← e_]; exact z10.out.1); have t13 : Hid (n10.grownBy p12 (Value.slice (some ⟨qt_9, 0, none⟩) a.length c0).ownBlock) := Lib.hid (by rw [← t12]; exact z10.out.2); have n15 := Lib.hid (Aid.grown_tr d14.out t13.out); have v15 := Lib.hid k10; clear k10 z10; clear p10 t13; replace H := let_hid H; obtain ⟨t_49, i16, H⟩ := H; replace H := app_hid H; go_wp2_with fail; clear m14 g12 m12 h12 r11 p11 p14 k12 l12 q13 h11 d13 j14 x11 v12 q12 j13 l13 e15 v13 a13 i11 w13 w11 r14 v11 n12 o12 e12 c12
   go_roundg m0
   case measure => omega
   case rel => exact ⟨k0 + 1, _, _, by omega, by go_num, rfl, H, n15, l14, Lib.hid (y14.out)⟩
end Go.Proofs.Ytihibckijdfidaa.GlMarkRateS

namespace Go.Proofs.Ytihibckijdfidaa.GlMarkIntS
open Go.RowKit
open Go.Proofs.Ytihibckijdfidaa.Rowed Go.Proofs.Ytihibckijdfidaa.Turn Go.Proofs.Ytihibckijdfidaa.Aid Go.Proofs.Ytihibckijdfidaa.GoP Go.Proofs.Ytihibckijdfidaa.GoM

def l0  (k0 : Nat) (s : (List Int) × Int) (nx0 bk0 : (List Int) × Int → Option (Int × (List Int))) : Option (Int × (List Int)) :=
 unp2 s fun a_0l0 k_1l0 =>
 Option.bind (idx a_0l0 (k0 : Int)) fun (yt_9 : Int) =>
 letK (a_0l0.set k0 k_1l0) fun (l10_10 : (List Int)) =>
 letK (IntKind.i64.wrap (k_1l0 + 1)) fun (t_12 : Int) =>
 appK nx0 (l10_10, t_12)

def e0  (s : (List Int) × Int) : Option (Int × (List Int)) :=
 unp2 s fun a_0l0 k_1l0 =>
 some (k_1l0, a_0l0)

def P (a : (List Int)) (k_1 : Int) : Option (Int × (List Int)) :=
 cntK (l0 ) (a.length) 0 (a, k_1) (e0 )

set_option maxRecDepth 100000 in
set_option maxHeartbeats 2000000 in
theorem C (a : (List Int)) (k_1 : Int) (A0 : Option Addr) (c0 : Nat)  (b0 : Nat) (w : World) (M0 : Hid (w.ownsRow b0 3 1 (.slice A0 a.length c0) a.length (HelpInt.iv a))) (N0 : Hid (a.length ≤ 9223372036854775807))  {r : Int} {l_ : (List Int)} (H : Hid (P a k_1 = some (r, l_))) :
  Calls Try.prog 28 #[.slice A0 a.length c0, .int .i64 k_1] w (fun e w' => e = .returned (.int .i64 r) ∧ w'.ownsRow b0 3 1 (.slice A0 a.length c0) a.length (HelpInt.iv l_) ∧ l_.length = a.length ∧ w.grownBy w' (Value.slice A0 a.length c0).ownBlock) := by
 have HB := Lib.hid (Aid.grown_refl w (Value.slice A0 a.length c0).ownBlock); unfold P at H; have N0o := N0.out
 go_enter Try.func28, Try.ntmps28
 go_wp2_with fail; have hb_0 : a.length ≤ 9223372036854775807 := own_max M0.out; go_wp2_with fail; go_loopg [5, 1] (a.length) (fun m_ v5_ v1_ wr => ∃ (k0 : Nat) (c10 : (List Int)) (a10 : Int), k0 + m_ = a.length ∧ v5_ = .int .i64 (k0 : Int) ∧ v1_ = .int .i64 a10 ∧ Hid (cntK (l0 ) m_ k0 (c10, a10) (e0 ) = some (r, l_)) ∧ Hid (w.grownBy wr (Value.slice A0 a.length c0).ownBlock) ∧ Hid (wr.ownsRow b0 3 1 (.slice A0 a.length c0) a.length (HelpInt.iv c10)) ∧ Hid (c10.length = a.length))
 case atStart => exact ⟨0, _, _, by omega, rfl, rfl, H, HB, M0, Lib.hid (rfl)⟩
 case round =>
  obtain ⟨k0, c10, a10, hkm0, rfl, rfl, H, m10, b10, f10⟩ := hrel; rename World => wr0
  cases gk with
  | zero =>
   obtain rfl : k0 = a.length := (by omega); have hc0 : decide (((a.length : Nat) : Int) < ((a.length : Nat) : Int)) = false := (by simp); replace H := cnt_zero H; unfold e0 at H; replace H := unp2_hid H; cases ret_hid H; go_wp2_with fail; go_ret; exact ⟨rfl, b10.out, f10.out, m10.out⟩
  | succ m0 =>
   have hlt0 : k0 < a.length := (by omega); have hc0 : decide ((k0 : Int) < ((a.length : Nat) : Int)) = true := (by simp; omega); replace H := cnt_succ H; unfold l0 at H; replace H := unp2_hid H; replace H := idx_hid H; obtain ⟨nt_9, yt_9, et_9, lt_9, gt_9, H⟩ := H; obtain rfl : k0 = nt_9 := (by omega); clear et_9; have q10 := f10.out; obtain ⟨qt_9, Qt_9⟩ := own_some b10.out (by omega); subst Qt_9; obtain ⟨s10, z10, zt_9, At_9, h10, i10⟩ := HelpInt.Ints.at_ (own_cells b10.out) (k := k0) (by omega); obtain rfl := Option.some.inj (gt_9.out.symm.trans h10); simp only [Option.some.injEq, Addr.mk.injEq] at At_9; obtain ⟨rfl, rfl, _⟩ := At_9; clear h10; simp only [Nat.zero_add] at i10; have t10 : (0 : Int) ≤ (k0 : Int) := (by omega); have y10 : (k0 : Int) < ((a.length : Nat) : Int) := (by omega); have x10 : ((k0 : Int)).toNat = k0 := (by omega); clear q10; replace H := let_hid H; obtain ⟨g10, d10, H⟩ := H
   try simp only [Int.toNat_natCast] at d10
   obtain ⟨l10, k10⟩ : ∃ x, (wr0).setCell ⟨qt_9, k0, none⟩ (.int .i64 a10) = x := ⟨_, rfl⟩; have p10 := b10.out.frozenAt (k0); have e10 := Lib.hid (own_stores [(k0, .int .i64 a10)] b10.out); have n10 : Hid (g10.length = a.length) := Lib.hid (by rw [← d10, List.length_set]; exact f10.out); have o10 : Hid (l10.ownsRow b0 3 1 (.slice (some ⟨qt_9, 0, none⟩) a.length c0) a.length (HelpInt.iv g10)) := Lib.hid (by have e_ : ([(k0, .int .i64 a10)] : List (Nat × Value)).foldl (fun xs p => xs.set p.1 p.2) (HelpInt.iv c10) = (HelpInt.iv g10) := (by rw [← d10]; first | done | simp [HelpInt.iv, List.map_set]); rw [← k10, ← e_]; exact e10.out.1); have j10 : Hid (wr0.grownBy l10 (Value.slice (some ⟨qt_9, 0, none⟩) a.length c0).ownBlock) := Lib.hid (by rw [← k10]; exact e10.out.2); have r10 := Lib.hid (Aid.grown_tr m10.out j10.out); have w10 := Lib.hid d10; clear d10 e10; clear b10 j10; replace H := let_hid H; obtain ⟨t_12, v10, H⟩ := H; replace H := app_hid H; go_wp2_with fail; clear p10 i10
   go_roundg m0
   case measure => omega
   case rel => exact ⟨k0 + 1, _, _, by omega, by go_num, rfl, H, r10, o10, Lib.hid (n10.out)⟩
end Go.Proofs.Ytihibckijdfidaa.GlMarkIntS

namespace Go.Proofs.Ytihibckijdfidaa.GlHeldIntS
open Go.RowKit
open Go.Proofs.Ytihibckijdfidaa.Rowed Go.Proofs.Ytihibckijdfidaa.Turn Go.Proofs.Ytihibckijdfidaa.Aid Go.Proofs.Ytihibckijdfidaa.GoP Go.Proofs.Ytihibckijdfidaa.GoM

def l0 (a : (List Int)) (k0 : Nat) (s : Int) (nx0 bk0 : Int → Option (Int)) : Option (Int) :=
 letK s fun k_1l0 =>
 Option.bind (idx a (k0 : Int)) fun (yt_8 : Int) =>
 letK (yt_8 != k_1l0) fun (t_11 : Bool) =>
 iteK t_11
 (some (-1))
 (letK (IntKind.i64.wrap (k_1l0 + 1)) fun (t_14 : Int) =>
 appK nx0 (t_14))

def e0  (s : Int) : Option (Int) :=
 letK s fun k_1l0 =>
 some k_1l0

def P (a : (List Int)) (k_1 : Int) : Option (Int) :=
 cntK (l0 a) (a.length) 0 (k_1) (e0 )

set_option maxRecDepth 100000 in
set_option maxHeartbeats 2000000 in
theorem C (a : (List Int)) (k_1 : Int) (A0 : Option Addr) (c0 : Nat)  (w : World) (M0 : Hid (Cells w 1 A0 a.length (HelpInt.iv a))) (N0 : Hid (a.length ≤ 9223372036854775807))  {r : Int} (H : Hid (P a k_1 = some r)) :
  Calls Try.prog 29 #[.slice A0 a.length c0, .int .i64 k_1] w (Gives (.int .i64 r) w) := by
 have HB := Lib.hid (Below.refl w.heap.size w); unfold P at H; have N0o := N0.out
 go_enter Try.func29, Try.ntmps29
 go_wp2_with fail; go_loopg [5, 1] (a.length) (fun m_ v5_ v1_ wr => ∃ (k0 : Nat) (b10 : Int), k0 + m_ = a.length ∧ v5_ = .int .i64 (k0 : Int) ∧ v1_ = .int .i64 b10 ∧ Hid (cntK (l0 a) m_ k0 (b10) (e0 ) = some r) ∧ Hid (Below w.heap.size w wr))
 case atStart => exact ⟨0, _, by omega, rfl, rfl, H, HB⟩
 case round =>
  obtain ⟨k0, b10, hkm0, rfl, rfl, H, a10⟩ := hrel; rename World => wr0
  cases gk with
  | zero =>
   obtain rfl : k0 = a.length := (by omega); have hc0 : decide (((a.length : Nat) : Int) < ((a.length : Nat) : Int)) = false := (by simp); replace H := cnt_zero H; unfold e0 at H; replace H := let_hid H; obtain ⟨_, rfl, H⟩ := H; obtain rfl := ret_hid H; go_wp2_with fail; go_ret; exact ⟨rfl, a10.out⟩
  | succ m0 =>
   have hlt0 : k0 < a.length := (by omega); have hc0 : decide ((k0 : Int) < ((a.length : Nat) : Int)) = true := (by simp; omega); replace H := cnt_succ H; unfold l0 at H; replace H := let_hid H; obtain ⟨_, rfl, H⟩ := H; replace H := idx_hid H; obtain ⟨nt_8, yt_8, et_8, lt_8, gt_8, H⟩ := H; obtain rfl : k0 = nt_8 := (by omega); clear et_8; obtain ⟨k10, j10, zt_8, At_8, d10, c10⟩ := HelpInt.Ints.at_ M0.out lt_8; obtain rfl := Option.some.inj (gt_8.out.symm.trans d10); subst At_8; have l10 := cell_lt c10; replace c10 := cell_below a10.out c10; clear d10; have h10 : (0 : Int) ≤ (k0 : Int) := (by omega); have f10 : (k0 : Int) < ((a.length : Nat) : Int) := (by omega); have e10 : ((k0 : Int)).toNat = k0 := (by omega); replace H := let_hid H; obtain ⟨t_11, g10, H⟩ := H
   cases t_11 with
   | false =>
    replace H := ite_f H; replace H := let_hid H; obtain ⟨t_14, i10, H⟩ := H; replace H := app_hid H; go_wp2_with fail
    go_roundg m0
    case measure => omega
    case rel => exact ⟨k0 + 1, _, by omega, by go_num, rfl, H, a10⟩
   | true =>
    replace H := ite_t H; obtain rfl := ret_hid H; go_wp2_with fail; go_ret; exact ⟨rfl, a10.out⟩
end Go.Proofs.Ytihibckijdfidaa.GlHeldIntS

namespace Go.Proofs.Ytihibckijdfidaa.GlFnExactPossibleChanges
open Go.RowKit
open Go.Proofs.Ytihibckijdfidaa.Rowed Go.Proofs.Ytihibckijdfidaa.Turn Go.Proofs.Ytihibckijdfidaa.Aid Go.Proofs.Ytihibckijdfidaa.GoP Go.Proofs.Ytihibckijdfidaa.GoM

def P (fuel : Nat) (aRates : (List Go.Proofs.Ytihibckijdfidaa.PRate.Rate)) (aX : Go.Proofs.Ytihibckijdfidaa.PCover.Cover) : Option (Bool) :=
  unCover aX fun (aX_id : Int) (aX_day : Int) (aX_zone : Int) (aX_grams : Int) (aX_paid : Int) (aX_from_ : Int) (aX_to_ : Int) (aX_leave : Int) (aX_arrive : Int) =>
  Option.bind (Go.Proofs.Ytihibckijdfidaa.GlSzRateS.P aRates 1048576) fun (t_5 : Int) =>
  letK (decide (t_5 < 0)) fun (t_8 : Bool) =>
  iteK t_8
  (some true)
  (Option.bind (Go.Proofs.Ytihibckijdfidaa.GlToRateS.P aRates) fun (t_11 : (List Go.Proofs.Ytihibckijdfidaa.PRate.Rate)) =>
  Option.bind (Go.Proofs.Ytihibckijdfidaa.GlToCover.P (Go.Proofs.Ytihibckijdfidaa.PCover.Cover.mk aX_id aX_day aX_zone aX_grams aX_paid aX_from_ aX_to_ aX_leave aX_arrive)) fun (t_13 : Go.Proofs.Ytihibckijdfidaa.PCover.Cover) =>
  unCover t_13 fun (t_13_id : Int) (t_13_day : Int) (t_13_zone : Int) (t_13_grams : Int) (t_13_paid : Int) (t_13_from_ : Int) (t_13_to_ : Int) (t_13_leave : Int) (t_13_arrive : Int) =>
  bind2 (Go.Proofs.Ytihibckijdfidaa.GsPossibleChanges.P fuel t_11 (Go.Proofs.Ytihibckijdfidaa.PCover.Cover.mk t_13_id t_13_day t_13_zone t_13_grams t_13_paid t_13_from_ t_13_to_ t_13_leave t_13_arrive)) fun (t_14a : (List Int)) (t_14b : Bool) =>
  Option.bind (Go.Proofs.Ytihibckijdfidaa.GlToRateS.P aRates) fun (t_21 : (List Go.Proofs.Ytihibckijdfidaa.PRate.Rate)) =>
  Option.bind (Go.Proofs.Ytihibckijdfidaa.GlToCover.P (Go.Proofs.Ytihibckijdfidaa.PCover.Cover.mk aX_id aX_day aX_zone aX_grams aX_paid aX_from_ aX_to_ aX_leave aX_arrive)) fun (t_25 : Go.Proofs.Ytihibckijdfidaa.PCover.Cover) =>
  unCover t_25 fun (t_25_id : Int) (t_25_day : Int) (t_25_zone : Int) (t_25_grams : Int) (t_25_paid : Int) (t_25_from_ : Int) (t_25_to_ : Int) (t_25_leave : Int) (t_25_arrive : Int) =>
  bind2 (Go.Proofs.Ytihibckijdfidaa.GiPossibleChanges.P t_21 (Go.Proofs.Ytihibckijdfidaa.PCover.Cover.mk t_25_id t_25_day t_25_zone t_25_grams t_25_paid t_25_from_ t_25_to_ t_25_leave t_25_arrive)) fun (t_26a : (List Int)) (t_26b : Bool) =>
  Option.bind (Go.Proofs.Ytihibckijdfidaa.GlEqIntS.P t_26a t_14a) fun (t_34 : Bool) =>
  letK (!t_34) fun (t_35 : Bool) =>
  joinK (fun (t_40 : Bool) =>
  iteK t_40
  (some false)
  (Option.bind (Go.Proofs.Ytihibckijdfidaa.GlToRateS.P aRates) fun (t_44 : (List Go.Proofs.Ytihibckijdfidaa.PRate.Rate)) =>
  Option.bind (Go.Proofs.Ytihibckijdfidaa.GlEqRateS.P t_21 t_44) fun (t_45 : Bool) =>
  letK (!t_45) fun (t_46 : Bool) =>
  iteK t_46
  (some false)
  (bind2 (Go.Proofs.Ytihibckijdfidaa.GlMarkRateS.P t_21 1) fun (t_51 : Int) (lt_51 : (List Go.Proofs.Ytihibckijdfidaa.PRate.Rate)) =>
  letK (decide (t_51 < 0)) fun (t_54 : Bool) =>
  joinK (fun (t_60 : Bool) =>
  joinK (fun (t_65 : Bool) =>
  iteK t_65
  (some false)
  (bind2 (Go.Proofs.Ytihibckijdfidaa.GlMarkIntS.P t_26a 1) fun (t_70 : Int) (lt_70 : (List Int)) =>
  Option.bind (Go.Proofs.Ytihibckijdfidaa.GlHeldIntS.P lt_70 1) fun (t_75 : Int) =>
  letK (decide (t_75 < 0)) fun (t_78 : Bool) =>
  iteK t_78
  (some false)
  (letK (t_75 != t_70) fun (t_82 : Bool) =>
  iteK t_82
  (some false)
  (Option.bind (Go.Proofs.Ytihibckijdfidaa.GlToRateS.P aRates) fun (t_85 : (List Go.Proofs.Ytihibckijdfidaa.PRate.Rate)) =>
  Option.bind (Go.Proofs.Ytihibckijdfidaa.GlToCover.P (Go.Proofs.Ytihibckijdfidaa.PCover.Cover.mk aX_id aX_day aX_zone aX_grams aX_paid aX_from_ aX_to_ aX_leave aX_arrive)) fun (t_87 : Go.Proofs.Ytihibckijdfidaa.PCover.Cover) =>
  unCover t_87 fun (t_87_id : Int) (t_87_day : Int) (t_87_zone : Int) (t_87_grams : Int) (t_87_paid : Int) (t_87_from_ : Int) (t_87_to_ : Int) (t_87_leave : Int) (t_87_arrive : Int) =>
  bind2 (Go.Proofs.Ytihibckijdfidaa.GiPossibleChanges.P t_85 (Go.Proofs.Ytihibckijdfidaa.PCover.Cover.mk t_87_id t_87_day t_87_zone t_87_grams t_87_paid t_87_from_ t_87_to_ t_87_leave t_87_arrive)) fun (t_88a : (List Int)) (t_88b : Bool) =>
  Option.bind (Go.Proofs.Ytihibckijdfidaa.GlEqIntS.P t_88a t_14a) fun (t_96 : Bool) =>
  letK (!t_96) fun (t_97 : Bool) =>
  joinK (fun (t_102 : Bool) =>
  iteK t_102
  (some false)
  (Option.bind (Go.Proofs.Ytihibckijdfidaa.GlHeldIntS.P lt_70 1) fun (t_107 : Int) =>
  letK (decide (t_107 < 0)) fun (t_110 : Bool) =>
  iteK t_110
  (some false)
  (letK (t_107 != t_70) fun (t_114 : Bool) =>
  iteK t_114
  (some false)
  (some true)))) fun jt_102 => iteK t_97 (appK jt_102 true) (letK (!(t_88b == t_14b)) fun (t_101 : Bool) =>
  appK jt_102 t_101))))) fun jt_65 => iteK t_60 (appK jt_65 true) (letK (!(t_26b == t_14b)) fun (t_64 : Bool) =>
  appK jt_65 t_64)) fun jt_60 => iteK t_54 (appK jt_60 true) (Option.bind (Go.Proofs.Ytihibckijdfidaa.GlEqIntS.P t_26a t_14a) fun (t_58 : Bool) =>
  letK (!t_58) fun (t_59 : Bool) =>
  appK jt_60 t_59)))) fun jt_40 => iteK t_35 (appK jt_40 true) (letK (!(t_26b == t_14b)) fun (t_39 : Bool) =>
  appK jt_40 t_39))

set_option maxRecDepth 100000 in
set_option maxHeartbeats 2000000 in
theorem C (fuel : Nat) (aRates : (List Go.Proofs.Ytihibckijdfidaa.PRate.Rate)) (aX : Go.Proofs.Ytihibckijdfidaa.PCover.Cover) (A0 : Option Addr) (c0 : Nat)  (w : World) (M0 : Hid (Cells w 5 A0 aRates.length (Go.Proofs.Ytihibckijdfidaa.PRate.flat aRates))) (N0 : Hid (aRates.length ≤ 9223372036854775807))  {r : Bool} (H : Hid (P fuel aRates aX = some r)) :
    Calls Try.prog 5 #[.slice A0 aRates.length c0, aX.val] w (Gives (.bool r) w) := by
  have HB := Lib.hid (Below.refl w.heap.size w); unfold P at H; obtain ⟨aX_id, aX_day, aX_zone, aX_grams, aX_paid, aX_from_, aX_to_, aX_leave, aX_arrive⟩ := aX; replace H := unCover_hid H; unfold Go.Proofs.Ytihibckijdfidaa.PCover.Cover.val; have N0o := N0.out
  go_enter Try.func5, Try.ntmps5
  obtain ⟨w_aX_0, hw_aX_0⟩ : ∃ x, w.alloc (.cells #[.int .i64 aX_id, .int .i64 aX_day, .int .i64 aX_zone, .int .i64 aX_grams, .int .i64 aX_paid, .int .i64 aX_from_, .int .i64 aX_to_, .int .i64 aX_leave, .int .i64 aX_arrive] 24) = x := ⟨_, rfl⟩; have bw_aX_0 : Below w.heap.size w w_aX_0 := (by rw [← hw_aX_0]; exact (Below.refl _ _).alloc (Nat.le_refl _) _); have HBw_aX_0 := Lib.hid (Below.step HB.out bw_aX_0); clear bw_aX_0; have kaX_0_0 : w_aX_0.cell? ⟨w.heap.size, 0, none⟩ = some (.int .i64 aX_id) := (by rw [← hw_aX_0]; exact box_new _ _ _ 0 _ rfl); have kaX_0_1 : w_aX_0.cell? ⟨w.heap.size, 1, none⟩ = some (.int .i64 aX_day) := (by rw [← hw_aX_0]; exact box_new _ _ _ 1 _ rfl); have kaX_0_2 : w_aX_0.cell? ⟨w.heap.size, 2, none⟩ = some (.int .i64 aX_zone) := (by rw [← hw_aX_0]; exact box_new _ _ _ 2 _ rfl); have kaX_0_3 : w_aX_0.cell? ⟨w.heap.size, 3, none⟩ = some (.int .i64 aX_grams) := (by rw [← hw_aX_0]; exact box_new _ _ _ 3 _ rfl); have kaX_0_4 : w_aX_0.cell? ⟨w.heap.size, 4, none⟩ = some (.int .i64 aX_paid) := (by rw [← hw_aX_0]; exact box_new _ _ _ 4 _ rfl); have kaX_0_5 : w_aX_0.cell? ⟨w.heap.size, 5, none⟩ = some (.int .i64 aX_from_) := (by rw [← hw_aX_0]; exact box_new _ _ _ 5 _ rfl); have kaX_0_6 : w_aX_0.cell? ⟨w.heap.size, 6, none⟩ = some (.int .i64 aX_to_) := (by rw [← hw_aX_0]; exact box_new _ _ _ 6 _ rfl); have kaX_0_7 : w_aX_0.cell? ⟨w.heap.size, 7, none⟩ = some (.int .i64 aX_leave) := (by rw [← hw_aX_0]; exact box_new _ _ _ 7 _ rfl); have kaX_0_8 : w_aX_0.cell? ⟨w.heap.size, 8, none⟩ = some (.int .i64 aX_arrive) := (by rw [← hw_aX_0]; exact box_new _ _ _ 8 _ rfl); replace H := bind_hid H; obtain ⟨t_5, qt_5, H⟩ := H; go_wp2_with fail; go_at_call 15; refine (Go.Proofs.Ytihibckijdfidaa.GlSzRateS.C (aRates) (1048576) A0 c0 _   (Lib.hid (Cells.below M0.out HBw_aX_0.out)) N0 qt_5).mono ?_; rintro e_t_5 wt_5 ⟨rfl, bt_5⟩; have HBwt_5 := Lib.hid (Below.step HBw_aX_0.out bt_5); replace kaX_0_0 := cell_below bt_5 kaX_0_0; replace kaX_0_1 := cell_below bt_5 kaX_0_1; replace kaX_0_2 := cell_below bt_5 kaX_0_2; replace kaX_0_3 := cell_below bt_5 kaX_0_3; replace kaX_0_4 := cell_below bt_5 kaX_0_4; replace kaX_0_5 := cell_below bt_5 kaX_0_5; replace kaX_0_6 := cell_below bt_5 kaX_0_6; replace kaX_0_7 := cell_below bt_5 kaX_0_7; replace kaX_0_8 := cell_below bt_5 kaX_0_8; clear bt_5; replace H := let_hid H; obtain ⟨t_8, ht_8, H⟩ := H
  cases t_8 with
  | false =>
    replace H := ite_f H; go_wp2_with fail; have bd5 : Below wt_5.heap.size wt_5 wt_5.drew := (Below.refl _ _).drew; have HBwt_5.drew := Lib.hid (Below.step HBwt_5.out bd5); replace kaX_0_0 := cell_below bd5 kaX_0_0; replace kaX_0_1 := cell_below bd5 kaX_0_1; replace kaX_0_2 := cell_below bd5 kaX_0_2; replace kaX_0_3 := cell_below bd5 kaX_0_3; replace kaX_0_4 := cell_below bd5 kaX_0_4; replace kaX_0_5 := cell_below bd5 kaX_0_5; replace kaX_0_6 := cell_below bd5 kaX_0_6; replace kaX_0_7 := cell_below bd5 kaX_0_7; replace kaX_0_8 := cell_below bd5 kaX_0_8; clear bd5; replace H := bind_hid H; obtain ⟨t_11, qt_11, H⟩ := H; replace H := bind_hid H; obtain ⟨t_13, qt_13, H⟩ := H; obtain ⟨t_13_id, t_13_day, t_13_zone, t_13_grams, t_13_paid, t_13_from_, t_13_to_, t_13_leave, t_13_arrive⟩ := t_13; replace H := unCover_hid H; replace H := bind2_hid H; obtain ⟨t_14a, t_14b, qt_14, H⟩ := H
    go_region_held3 (fun w' => w'.cell? ⟨w.heap.size, 0, none⟩ = some (.int .i64 aX_id) ∧ w'.cell? ⟨w.heap.size, 1, none⟩ = some (.int .i64 aX_day) ∧ w'.cell? ⟨w.heap.size, 2, none⟩ = some (.int .i64 aX_zone) ∧ w'.cell? ⟨w.heap.size, 3, none⟩ = some (.int .i64 aX_grams) ∧ w'.cell? ⟨w.heap.size, 4, none⟩ = some (.int .i64 aX_paid) ∧ w'.cell? ⟨w.heap.size, 5, none⟩ = some (.int .i64 aX_from_) ∧ w'.cell? ⟨w.heap.size, 6, none⟩ = some (.int .i64 aX_to_) ∧ w'.cell? ⟨w.heap.size, 7, none⟩ = some (.int .i64 aX_leave) ∧ w'.cell? ⟨w.heap.size, 8, none⟩ = some (.int .i64 aX_arrive)) (first | exact ⟨kaX_0_0, kaX_0_1, kaX_0_2, kaX_0_3, kaX_0_4, kaX_0_5, kaX_0_6, kaX_0_7, kaX_0_8⟩)
        (first
          | (go_at_call 17
             refine (Go.Proofs.Ytihibckijdfidaa.GlToRateS.C (aRates) A0 c0 _   (Lib.hid (Cells.below M0.out HBwt_5.drew.out)) N0 qt_11).mono ?_; rintro e_t_11 wt_11 ⟨At_11, ct_11, rfl, ot_11, bt_11⟩; have Dt_11_aX_0 := Lib.hid (apart_callbox ot_11 kaX_0_0); have Ot_11 := Lib.hid (own_lower ot_11 HBwt_5.drew.out.size); clear ot_11; have HBwt_11 := Lib.hid (Below.step HBwt_5.drew.out bt_11); replace kaX_0_0 := cell_below bt_11 kaX_0_0; replace kaX_0_1 := cell_below bt_11 kaX_0_1; replace kaX_0_2 := cell_below bt_11 kaX_0_2; replace kaX_0_3 := cell_below bt_11 kaX_0_3; replace kaX_0_4 := cell_below bt_11 kaX_0_4; replace kaX_0_5 := cell_below bt_11 kaX_0_5; replace kaX_0_6 := cell_below bt_11 kaX_0_6; replace kaX_0_7 := cell_below bt_11 kaX_0_7; replace kaX_0_8 := cell_below bt_11 kaX_0_8; clear bt_11
             clear qt_11)
          | (go_at_call 18
             refine (Go.Proofs.Ytihibckijdfidaa.GlToCover.C ((Go.Proofs.Ytihibckijdfidaa.PCover.Cover.mk aX_id aX_day aX_zone aX_grams aX_paid aX_from_ aX_to_ aX_leave aX_arrive))  _    qt_13).mono ?_; rintro e_t_13 wt_13 ⟨rfl, bt_13⟩; unfold Go.Proofs.Ytihibckijdfidaa.PCover.Cover.val; have HBwt_13 := Lib.hid (Below.step HBwt_11.out bt_13); replace kaX_0_0 := cell_below bt_13 kaX_0_0; replace kaX_0_1 := cell_below bt_13 kaX_0_1; replace kaX_0_2 := cell_below bt_13 kaX_0_2; replace kaX_0_3 := cell_below bt_13 kaX_0_3; replace kaX_0_4 := cell_below bt_13 kaX_0_4; replace kaX_0_5 := cell_below bt_13 kaX_0_5; replace kaX_0_6 := cell_below bt_13 kaX_0_6; replace kaX_0_7 := cell_below bt_13 kaX_0_7; replace kaX_0_8 := cell_below bt_13 kaX_0_8; replace Ot_11 := Lib.hid (own_below Ot_11.out bt_13); clear bt_13
             clear qt_13)
          | (go_at_call 24
             refine (Go.Proofs.Ytihibckijdfidaa.GsPossibleChanges.C fuel (t_11) ((Go.Proofs.Ytihibckijdfidaa.PCover.Cover.mk t_13_id t_13_day t_13_zone t_13_grams t_13_paid t_13_from_ t_13_to_ t_13_leave t_13_arrive)) At_11 ct_11 _   (Lib.hid (own_cells Ot_11.out)) (Lib.hid (own_max Ot_11.out)) qt_14).mono ?_; rintro e_t_14 wt_14 ⟨At_14a, ct_14a, rfl, ot_14a, bt_14⟩; have Dt_14a_t_11 := Lib.hid (apart_call ot_14a Ot_11.out); have Dt_14a_aX_0 := Lib.hid (apart_callbox ot_14a kaX_0_0); have Ot_14a := Lib.hid (own_lower ot_14a HBwt_13.out.size); clear ot_14a; have HBwt_14 := Lib.hid (Below.step HBwt_13.out bt_14); replace kaX_0_0 := cell_below bt_14 kaX_0_0; replace kaX_0_1 := cell_below bt_14 kaX_0_1; replace kaX_0_2 := cell_below bt_14 kaX_0_2; replace kaX_0_3 := cell_below bt_14 kaX_0_3; replace kaX_0_4 := cell_below bt_14 kaX_0_4; replace kaX_0_5 := cell_below bt_14 kaX_0_5; replace kaX_0_6 := cell_below bt_14 kaX_0_6; replace kaX_0_7 := cell_below bt_14 kaX_0_7; replace kaX_0_8 := cell_below bt_14 kaX_0_8; replace Ot_11 := Lib.hid (own_below Ot_11.out bt_14); clear bt_14
             clear qt_14))
    replace H := bind_hid H; obtain ⟨t_21, qt_21, H⟩ := H; go_wp2_with fail; go_at_call 17; refine (Go.Proofs.Ytihibckijdfidaa.GlToRateS.C (aRates) A0 c0 _   (Lib.hid (Cells.below M0.out HBwt_14.out)) N0 qt_21).mono ?_; rintro e_t_21 wt_21 ⟨At_21, ct_21, rfl, ot_21, bt_21⟩; have Dt_21_t_11 := Lib.hid (apart_call ot_21 Ot_11.out); have Dt_21_t_14a := Lib.hid (apart_call ot_21 Ot_14a.out); have Dt_21_aX_0 := Lib.hid (apart_callbox ot_21 kaX_0_0); have Ot_21 := Lib.hid (own_lower ot_21 HBwt_14.out.size); clear ot_21; have HBwt_21 := Lib.hid (Below.step HBwt_14.out bt_21); replace kaX_0_0 := cell_below bt_21 kaX_0_0; replace kaX_0_1 := cell_below bt_21 kaX_0_1; replace kaX_0_2 := cell_below bt_21 kaX_0_2; replace kaX_0_3 := cell_below bt_21 kaX_0_3; replace kaX_0_4 := cell_below bt_21 kaX_0_4; replace kaX_0_5 := cell_below bt_21 kaX_0_5; replace kaX_0_6 := cell_below bt_21 kaX_0_6; replace kaX_0_7 := cell_below bt_21 kaX_0_7; replace kaX_0_8 := cell_below bt_21 kaX_0_8; replace Ot_11 := Lib.hid (own_below Ot_11.out bt_21); replace Ot_14a := Lib.hid (own_below Ot_14a.out bt_21); clear bt_21; replace H := bind_hid H; obtain ⟨t_25, qt_25, H⟩ := H; obtain ⟨t_25_id, t_25_day, t_25_zone, t_25_grams, t_25_paid, t_25_from_, t_25_to_, t_25_leave, t_25_arrive⟩ := t_25; replace H := unCover_hid H; go_wp2_with fail; go_at_call 18; refine (Go.Proofs.Ytihibckijdfidaa.GlToCover.C ((Go.Proofs.Ytihibckijdfidaa.PCover.Cover.mk aX_id aX_day aX_zone aX_grams aX_paid aX_from_ aX_to_ aX_leave aX_arrive))  _    qt_25).mono ?_; rintro e_t_25 wt_25 ⟨rfl, bt_25⟩; unfold Go.Proofs.Ytihibckijdfidaa.PCover.Cover.val; have HBwt_25 := Lib.hid (Below.step HBwt_21.out bt_25); replace kaX_0_0 := cell_below bt_25 kaX_0_0; replace kaX_0_1 := cell_below bt_25 kaX_0_1; replace kaX_0_2 := cell_below bt_25 kaX_0_2; replace kaX_0_3 := cell_below bt_25 kaX_0_3; replace kaX_0_4 := cell_below bt_25 kaX_0_4; replace kaX_0_5 := cell_below bt_25 kaX_0_5; replace kaX_0_6 := cell_below bt_25 kaX_0_6; replace kaX_0_7 := cell_below bt_25 kaX_0_7; replace kaX_0_8 := cell_below bt_25 kaX_0_8; replace Ot_11 := Lib.hid (own_below Ot_11.out bt_25); replace Ot_14a := Lib.hid (own_below Ot_14a.out bt_25); replace Ot_21 := Lib.hid (own_below Ot_21.out bt_25); clear bt_25; replace H := bind2_hid H; obtain ⟨t_26a, t_26b, qt_26, H⟩ := H; go_wp2_with fail; go_at_call 25; refine (Go.Proofs.Ytihibckijdfidaa.GiPossibleChanges.C (t_21) ((Go.Proofs.Ytihibckijdfidaa.PCover.Cover.mk t_25_id t_25_day t_25_zone t_25_grams t_25_paid t_25_from_ t_25_to_ t_25_leave t_25_arrive)) At_21 ct_21 _   (Lib.hid (own_cells Ot_21.out)) (Lib.hid (own_max Ot_21.out)) qt_26).mono ?_; rintro e_t_26 wt_26 ⟨At_26a, ct_26a, rfl, ot_26a, bt_26⟩; have Dt_26a_t_11 := Lib.hid (apart_call ot_26a Ot_11.out); have Dt_26a_t_14a := Lib.hid (apart_call ot_26a Ot_14a.out); have Dt_26a_t_21 := Lib.hid (apart_call ot_26a Ot_21.out); have Dt_26a_aX_0 := Lib.hid (apart_callbox ot_26a kaX_0_0); have Ot_26a := Lib.hid (own_lower ot_26a HBwt_25.out.size); clear ot_26a; have HBwt_26 := Lib.hid (Below.step HBwt_25.out bt_26); replace kaX_0_0 := cell_below bt_26 kaX_0_0; replace kaX_0_1 := cell_below bt_26 kaX_0_1; replace kaX_0_2 := cell_below bt_26 kaX_0_2; replace kaX_0_3 := cell_below bt_26 kaX_0_3; replace kaX_0_4 := cell_below bt_26 kaX_0_4; replace kaX_0_5 := cell_below bt_26 kaX_0_5; replace kaX_0_6 := cell_below bt_26 kaX_0_6; replace kaX_0_7 := cell_below bt_26 kaX_0_7; replace kaX_0_8 := cell_below bt_26 kaX_0_8; replace Ot_11 := Lib.hid (own_below Ot_11.out bt_26); replace Ot_14a := Lib.hid (own_below Ot_14a.out bt_26); replace Ot_21 := Lib.hid (own_below Ot_21.out bt_26); clear bt_26; replace H := bind_hid H; obtain ⟨t_34, qt_34, H⟩ := H; go_wp2_with fail; go_at_call 26; refine (Go.Proofs.Ytihibckijdfidaa.GlEqIntS.C (t_26a) (t_14a) At_26a ct_26a At_14a ct_14a _   (Lib.hid (own_cells Ot_26a.out)) (Lib.hid (own_max Ot_26a.out)) (Lib.hid (own_cells Ot_14a.out)) (Lib.hid (own_max Ot_14a.out)) qt_34).mono ?_
    rintro e_t_34 wt_34 ⟨rfl, bt_34⟩; have HBwt_34 := Lib.hid (Below.step HBwt_26.out bt_34); replace kaX_0_0 := cell_below bt_34 kaX_0_0; replace kaX_0_1 := cell_below bt_34 kaX_0_1; replace kaX_0_2 := cell_below bt_34 kaX_0_2; replace kaX_0_3 := cell_below bt_34 kaX_0_3; replace kaX_0_4 := cell_below bt_34 kaX_0_4; replace kaX_0_5 := cell_below bt_34 kaX_0_5; replace kaX_0_6 := cell_below bt_34 kaX_0_6; replace kaX_0_7 := cell_below bt_34 kaX_0_7; replace kaX_0_8 := cell_below bt_34 kaX_0_8; replace Ot_11 := Lib.hid (own_below Ot_11.out bt_34); replace Ot_14a := Lib.hid (own_below Ot_14a.out bt_34); replace Ot_21 := Lib.hid (own_below Ot_21.out bt_34); replace Ot_26a := Lib.hid (own_below Ot_26a.out bt_34); clear bt_34
    cases t_34 with
    | false =>
      replace H := let_hid H; obtain ⟨t_35, ht_35, H⟩ := H; obtain rfl : t_35 = true := ht_35.symm; replace H := join_hid H; replace H := ite_t H; replace H := app_hid H; replace H := ite_t H; obtain rfl := ret_hid H; go_wp2_with fail; go_ret; exact ⟨rfl, HBwt_34.out⟩
    | true =>
      replace H := let_hid H; obtain ⟨t_35, ht_35, H⟩ := H; obtain rfl : t_35 = false := ht_35.symm; replace H := join_hid H; replace H := ite_f H; replace H := let_hid H; obtain ⟨t_39, ht_39, H⟩ := H; replace H := app_hid H
      cases t_39 with
      | false =>
        replace H := ite_f H; replace H := bind_hid H; obtain ⟨t_44, qt_44, H⟩ := H; go_wp2_with fail; go_at_call 17; refine (Go.Proofs.Ytihibckijdfidaa.GlToRateS.C (aRates) A0 c0 _   (Lib.hid (Cells.below M0.out HBwt_34.out)) N0 qt_44).mono ?_; rintro e_t_44 wt_44 ⟨At_44, ct_44, rfl, ot_44, bt_44⟩; have Dt_44_t_11 := Lib.hid (apart_call ot_44 Ot_11.out); have Dt_44_t_14a := Lib.hid (apart_call ot_44 Ot_14a.out); have Dt_44_t_21 := Lib.hid (apart_call ot_44 Ot_21.out); have Dt_44_t_26a := Lib.hid (apart_call ot_44 Ot_26a.out); have Dt_44_aX_0 := Lib.hid (apart_callbox ot_44 kaX_0_0); have Ot_44 := Lib.hid (own_lower ot_44 HBwt_34.out.size); clear ot_44; have HBwt_44 := Lib.hid (Below.step HBwt_34.out bt_44); replace kaX_0_0 := cell_below bt_44 kaX_0_0; replace kaX_0_1 := cell_below bt_44 kaX_0_1; replace kaX_0_2 := cell_below bt_44 kaX_0_2; replace kaX_0_3 := cell_below bt_44 kaX_0_3; replace kaX_0_4 := cell_below bt_44 kaX_0_4; replace kaX_0_5 := cell_below bt_44 kaX_0_5; replace kaX_0_6 := cell_below bt_44 kaX_0_6; replace kaX_0_7 := cell_below bt_44 kaX_0_7; replace kaX_0_8 := cell_below bt_44 kaX_0_8; replace Ot_11 := Lib.hid (own_below Ot_11.out bt_44); replace Ot_14a := Lib.hid (own_below Ot_14a.out bt_44); replace Ot_21 := Lib.hid (own_below Ot_21.out bt_44); replace Ot_26a := Lib.hid (own_below Ot_26a.out bt_44); clear bt_44; replace H := bind_hid H; obtain ⟨t_45, qt_45, H⟩ := H; go_wp2_with fail; go_at_call 20; refine (Go.Proofs.Ytihibckijdfidaa.GlEqRateS.C (t_21) (t_44) At_21 ct_21 At_44 ct_44 _   (Lib.hid (own_cells Ot_21.out)) (Lib.hid (own_max Ot_21.out)) (Lib.hid (own_cells Ot_44.out)) (Lib.hid (own_max Ot_44.out)) qt_45).mono ?_; rintro e_t_45 wt_45 ⟨rfl, bt_45⟩; have HBwt_45 := Lib.hid (Below.step HBwt_44.out bt_45); replace kaX_0_0 := cell_below bt_45 kaX_0_0; replace kaX_0_1 := cell_below bt_45 kaX_0_1; replace kaX_0_2 := cell_below bt_45 kaX_0_2; replace kaX_0_3 := cell_below bt_45 kaX_0_3; replace kaX_0_4 := cell_below bt_45 kaX_0_4; replace kaX_0_5 := cell_below bt_45 kaX_0_5; replace kaX_0_6 := cell_below bt_45 kaX_0_6; replace kaX_0_7 := cell_below bt_45 kaX_0_7; replace kaX_0_8 := cell_below bt_45 kaX_0_8; replace Ot_11 := Lib.hid (own_below Ot_11.out bt_45); replace Ot_14a := Lib.hid (own_below Ot_14a.out bt_45); replace Ot_21 := Lib.hid (own_below Ot_21.out bt_45); replace Ot_26a := Lib.hid (own_below Ot_26a.out bt_45); replace Ot_44 := Lib.hid (own_below Ot_44.out bt_45); clear bt_45
        cases t_45 with
        | false =>
          replace H := let_hid H; obtain ⟨t_46, ht_46, H⟩ := H; obtain rfl : t_46 = true := ht_46.symm; replace H := ite_t H; obtain rfl := ret_hid H; go_wp2_with fail; go_ret; exact ⟨rfl, HBwt_45.out⟩
        | true =>
          replace H := let_hid H; obtain ⟨t_46, ht_46, H⟩ := H; obtain rfl : t_46 = false := ht_46.symm; replace H := ite_f H; replace H := bind2_hid H; obtain ⟨t_51, lt_51, qt_51, H⟩ := H; go_wp2_with fail; go_at_call 27; refine (Go.Proofs.Ytihibckijdfidaa.GlMarkRateS.C (t_21) (1) At_21 ct_21 w.heap.size _   Ot_21 (Lib.hid (own_max Ot_21.out))   qt_51).mono ?_; rintro e_t_51 wt_51 ⟨rfl, ot_51, nt_51, gt_51⟩; have Pt_51 := Lib.hid ot_51; have Gt_51 := Lib.hid gt_51; replace nt_51 := Lib.hid nt_51; clear ot_51 gt_51; have HBwt_51 := Lib.hid (HBwt_45.out.grown Gt_51.out HBwt_45.out.size (fun q hq => (Ot_21.out.lt q hq).1)); replace kaX_0_0 := cell_other kaX_0_0 Gt_51.out Dt_21_aX_0.out; replace kaX_0_1 := cell_other kaX_0_1 Gt_51.out Dt_21_aX_0.out; replace kaX_0_2 := cell_other kaX_0_2 Gt_51.out Dt_21_aX_0.out; replace kaX_0_3 := cell_other kaX_0_3 Gt_51.out Dt_21_aX_0.out; replace kaX_0_4 := cell_other kaX_0_4 Gt_51.out Dt_21_aX_0.out; replace kaX_0_5 := cell_other kaX_0_5 Gt_51.out Dt_21_aX_0.out; replace kaX_0_6 := cell_other kaX_0_6 Gt_51.out Dt_21_aX_0.out; replace kaX_0_7 := cell_other kaX_0_7 Gt_51.out Dt_21_aX_0.out; replace kaX_0_8 := cell_other kaX_0_8 Gt_51.out Dt_21_aX_0.out; replace Ot_11 := Lib.hid (own_other Ot_11.out Gt_51.out Dt_21_t_11.out); replace Ot_14a := Lib.hid (own_other Ot_14a.out Gt_51.out Dt_21_t_14a.out); replace Ot_26a := Lib.hid (own_other Ot_26a.out Gt_51.out (Apart.symm Dt_26a_t_21.out)); replace Ot_44 := Lib.hid (own_other Ot_44.out Gt_51.out (Apart.symm Dt_44_t_21.out)); clear Ot_21 Gt_51; replace H := let_hid H; obtain ⟨t_54, ht_54, H⟩ := H; replace H := join_hid H
          cases t_54 with
          | false =>
            replace H := ite_f H; replace H := bind_hid H; obtain ⟨t_58, qt_58, H⟩ := H; go_wp2_with fail; go_at_call 26; refine (Go.Proofs.Ytihibckijdfidaa.GlEqIntS.C (t_26a) (t_14a) At_26a ct_26a At_14a ct_14a _   (Lib.hid (own_cells Ot_26a.out)) (Lib.hid (own_max Ot_26a.out)) (Lib.hid (own_cells Ot_14a.out)) (Lib.hid (own_max Ot_14a.out)) qt_58).mono ?_; rintro e_t_58 wt_58 ⟨rfl, bt_58⟩; have HBwt_58 := Lib.hid (Below.step HBwt_51.out bt_58); replace kaX_0_0 := cell_below bt_58 kaX_0_0; replace kaX_0_1 := cell_below bt_58 kaX_0_1; replace kaX_0_2 := cell_below bt_58 kaX_0_2; replace kaX_0_3 := cell_below bt_58 kaX_0_3; replace kaX_0_4 := cell_below bt_58 kaX_0_4; replace kaX_0_5 := cell_below bt_58 kaX_0_5; replace kaX_0_6 := cell_below bt_58 kaX_0_6; replace kaX_0_7 := cell_below bt_58 kaX_0_7; replace kaX_0_8 := cell_below bt_58 kaX_0_8; replace Ot_11 := Lib.hid (own_below Ot_11.out bt_58); replace Ot_14a := Lib.hid (own_below Ot_14a.out bt_58); replace Pt_51 := Lib.hid (own_below Pt_51.out bt_58); replace Ot_26a := Lib.hid (own_below Ot_26a.out bt_58); replace Ot_44 := Lib.hid (own_below Ot_44.out bt_58); clear bt_58
            cases t_58 with
            | false =>
              replace H := let_hid H; obtain ⟨t_59, ht_59, H⟩ := H; obtain rfl : t_59 = true := ht_59.symm; replace H := app_hid H; replace H := join_hid H; replace H := ite_t H; replace H := app_hid H; replace H := ite_t H; obtain rfl := ret_hid H; go_wp2_with fail; go_ret; exact ⟨rfl, HBwt_58.out⟩
            | true =>
              replace H := let_hid H; obtain ⟨t_59, ht_59, H⟩ := H; obtain rfl : t_59 = false := ht_59.symm; replace H := app_hid H; replace H := join_hid H; replace H := ite_f H; replace H := let_hid H; obtain ⟨t_64, ht_64, H⟩ := H; obtain rfl := ht_39.symm.trans ht_64; replace H := app_hid H; replace H := ite_f H; replace H := bind2_hid H; obtain ⟨t_70, lt_70, qt_70, H⟩ := H; go_wp2_with fail; go_at_call 28; refine (Go.Proofs.Ytihibckijdfidaa.GlMarkIntS.C (t_26a) (1) At_26a ct_26a w.heap.size _   Ot_26a (Lib.hid (own_max Ot_26a.out))   qt_70).mono ?_; rintro e_t_70 wt_70 ⟨rfl, ot_70, nt_70, gt_70⟩; have Pt_70 := Lib.hid ot_70; have Gt_70 := Lib.hid gt_70; replace nt_70 := Lib.hid nt_70; clear ot_70 gt_70; have HBwt_70 := Lib.hid (HBwt_58.out.grown Gt_70.out HBwt_58.out.size (fun q hq => (Ot_26a.out.lt q hq).1)); replace kaX_0_0 := cell_other kaX_0_0 Gt_70.out Dt_26a_aX_0.out; replace kaX_0_1 := cell_other kaX_0_1 Gt_70.out Dt_26a_aX_0.out; replace kaX_0_2 := cell_other kaX_0_2 Gt_70.out Dt_26a_aX_0.out; replace kaX_0_3 := cell_other kaX_0_3 Gt_70.out Dt_26a_aX_0.out; replace kaX_0_4 := cell_other kaX_0_4 Gt_70.out Dt_26a_aX_0.out; replace kaX_0_5 := cell_other kaX_0_5 Gt_70.out Dt_26a_aX_0.out; replace kaX_0_6 := cell_other kaX_0_6 Gt_70.out Dt_26a_aX_0.out; replace kaX_0_7 := cell_other kaX_0_7 Gt_70.out Dt_26a_aX_0.out; replace kaX_0_8 := cell_other kaX_0_8 Gt_70.out Dt_26a_aX_0.out; replace Ot_11 := Lib.hid (own_other Ot_11.out Gt_70.out Dt_26a_t_11.out); replace Ot_14a := Lib.hid (own_other Ot_14a.out Gt_70.out Dt_26a_t_14a.out); replace Pt_51 := Lib.hid (own_other Pt_51.out Gt_70.out Dt_26a_t_21.out); replace Ot_44 := Lib.hid (own_other Ot_44.out Gt_70.out (Apart.symm Dt_44_t_26a.out)); clear Ot_26a Gt_70; replace H := bind_hid H; obtain ⟨t_75, qt_75, H⟩ := H; go_wp2_with fail; have hc_ := nt_70.out; have hv_ : (Value.slice At_26a t_26a.length ct_26a : Value) = Value.slice At_26a lt_70.length ct_26a := (by rw [hc_])
              try rw [hv_]
              replace Pt_70 := Lib.hid (own_len hc_ Pt_70.out); clear hc_ hv_; go_wp2_with fail; go_at_call 29; refine (Go.Proofs.Ytihibckijdfidaa.GlHeldIntS.C (lt_70) (1) At_26a ct_26a _   (Lib.hid (own_cells Pt_70.out)) (Lib.hid (own_max Pt_70.out)) qt_75).mono ?_; rintro e_t_75 wt_75 ⟨rfl, bt_75⟩; have HBwt_75 := Lib.hid (Below.step HBwt_70.out bt_75); replace kaX_0_0 := cell_below bt_75 kaX_0_0; replace kaX_0_1 := cell_below bt_75 kaX_0_1; replace kaX_0_2 := cell_below bt_75 kaX_0_2; replace kaX_0_3 := cell_below bt_75 kaX_0_3; replace kaX_0_4 := cell_below bt_75 kaX_0_4; replace kaX_0_5 := cell_below bt_75 kaX_0_5; replace kaX_0_6 := cell_below bt_75 kaX_0_6; replace kaX_0_7 := cell_below bt_75 kaX_0_7; replace kaX_0_8 := cell_below bt_75 kaX_0_8; replace Ot_11 := Lib.hid (own_below Ot_11.out bt_75); replace Ot_14a := Lib.hid (own_below Ot_14a.out bt_75); replace Pt_51 := Lib.hid (own_below Pt_51.out bt_75); replace Pt_70 := Lib.hid (own_below Pt_70.out bt_75); replace Ot_44 := Lib.hid (own_below Ot_44.out bt_75); clear bt_75; replace H := let_hid H; obtain ⟨t_78, ht_78, H⟩ := H
              cases t_78 with
              | false =>
                replace H := ite_f H; replace H := let_hid H; obtain ⟨t_82, ht_82, H⟩ := H
                cases t_82 with
                | false =>
                  replace H := ite_f H; go_wp2_with fail; have hc_ := nt_51.out; have hv_ : (Value.slice At_21 t_21.length ct_21 : Value) = Value.slice At_21 lt_51.length ct_21 := (by rw [hc_])
                  try rw [hv_]
                  replace Pt_51 := Lib.hid (own_len hc_ Pt_51.out); clear hc_ hv_; go_wp2_with fail; have bd24 : Below wt_75.heap.size wt_75 wt_75.drew := (Below.refl _ _).drew; have HBwt_75.drew := Lib.hid (Below.step HBwt_75.out bd24); replace kaX_0_0 := cell_below bd24 kaX_0_0; replace kaX_0_1 := cell_below bd24 kaX_0_1; replace kaX_0_2 := cell_below bd24 kaX_0_2; replace kaX_0_3 := cell_below bd24 kaX_0_3; replace kaX_0_4 := cell_below bd24 kaX_0_4; replace kaX_0_5 := cell_below bd24 kaX_0_5; replace kaX_0_6 := cell_below bd24 kaX_0_6; replace kaX_0_7 := cell_below bd24 kaX_0_7; replace kaX_0_8 := cell_below bd24 kaX_0_8; replace Ot_11 := Lib.hid (own_below Ot_11.out bd24); replace Ot_14a := Lib.hid (own_below Ot_14a.out bd24); replace Pt_51 := Lib.hid (own_below Pt_51.out bd24); replace Pt_70 := Lib.hid (own_below Pt_70.out bd24); replace Ot_44 := Lib.hid (own_below Ot_44.out bd24); clear bd24; replace H := bind_hid H; obtain ⟨t_85, qt_85, H⟩ := H; replace H := bind_hid H; obtain ⟨t_87, qt_87, H⟩ := H; obtain ⟨t_87_id, t_87_day, t_87_zone, t_87_grams, t_87_paid, t_87_from_, t_87_to_, t_87_leave, t_87_arrive⟩ := t_87; replace H := unCover_hid H; replace H := bind2_hid H; obtain ⟨t_88a, t_88b, qt_88, H⟩ := H
                  go_region_held3 (fun w' => w'.cell? ⟨w.heap.size, 0, none⟩ = some (.int .i64 aX_id) ∧ w'.cell? ⟨w.heap.size, 1, none⟩ = some (.int .i64 aX_day) ∧ w'.cell? ⟨w.heap.size, 2, none⟩ = some (.int .i64 aX_zone) ∧ w'.cell? ⟨w.heap.size, 3, none⟩ = some (.int .i64 aX_grams) ∧ w'.cell? ⟨w.heap.size, 4, none⟩ = some (.int .i64 aX_paid) ∧ w'.cell? ⟨w.heap.size, 5, none⟩ = some (.int .i64 aX_from_) ∧ w'.cell? ⟨w.heap.size, 6, none⟩ = some (.int .i64 aX_to_) ∧ w'.cell? ⟨w.heap.size, 7, none⟩ = some (.int .i64 aX_leave) ∧ w'.cell? ⟨w.heap.size, 8, none⟩ = some (.int .i64 aX_arrive)) (first | exact ⟨kaX_0_0, kaX_0_1, kaX_0_2, kaX_0_3, kaX_0_4, kaX_0_5, kaX_0_6, kaX_0_7, kaX_0_8⟩)
                      (first
                        | (go_at_call 17
                           refine (Go.Proofs.Ytihibckijdfidaa.GlToRateS.C (aRates) A0 c0 _   (Lib.hid (Cells.below M0.out HBwt_75.drew.out)) N0 qt_85).mono ?_; rintro e_t_85 wt_85 ⟨At_85, ct_85, rfl, ot_85, bt_85⟩; have Dt_85_t_11 := Lib.hid (apart_call ot_85 Ot_11.out); have Dt_85_t_14a := Lib.hid (apart_call ot_85 Ot_14a.out); have Dt_85_t_21 := Lib.hid (apart_call ot_85 Pt_51.out); have Dt_85_t_26a := Lib.hid (apart_call ot_85 Pt_70.out); have Dt_85_t_44 := Lib.hid (apart_call ot_85 Ot_44.out); have Dt_85_aX_0 := Lib.hid (apart_callbox ot_85 kaX_0_0); have Ot_85 := Lib.hid (own_lower ot_85 HBwt_75.drew.out.size); clear ot_85; have HBwt_85 := Lib.hid (Below.step HBwt_75.drew.out bt_85); replace kaX_0_0 := cell_below bt_85 kaX_0_0; replace kaX_0_1 := cell_below bt_85 kaX_0_1; replace kaX_0_2 := cell_below bt_85 kaX_0_2; replace kaX_0_3 := cell_below bt_85 kaX_0_3; replace kaX_0_4 := cell_below bt_85 kaX_0_4; replace kaX_0_5 := cell_below bt_85 kaX_0_5; replace kaX_0_6 := cell_below bt_85 kaX_0_6; replace kaX_0_7 := cell_below bt_85 kaX_0_7; replace kaX_0_8 := cell_below bt_85 kaX_0_8; replace Ot_11 := Lib.hid (own_below Ot_11.out bt_85); replace Ot_14a := Lib.hid (own_below Ot_14a.out bt_85); replace Pt_51 := Lib.hid (own_below Pt_51.out bt_85); replace Pt_70 := Lib.hid (own_below Pt_70.out bt_85); replace Ot_44 := Lib.hid (own_below Ot_44.out bt_85); clear bt_85
                           clear qt_85)
                        | (go_at_call 18
                           refine (Go.Proofs.Ytihibckijdfidaa.GlToCover.C ((Go.Proofs.Ytihibckijdfidaa.PCover.Cover.mk aX_id aX_day aX_zone aX_grams aX_paid aX_from_ aX_to_ aX_leave aX_arrive))  _    qt_87).mono ?_; rintro e_t_87 wt_87 ⟨rfl, bt_87⟩; unfold Go.Proofs.Ytihibckijdfidaa.PCover.Cover.val; have HBwt_87 := Lib.hid (Below.step HBwt_85.out bt_87); replace kaX_0_0 := cell_below bt_87 kaX_0_0; replace kaX_0_1 := cell_below bt_87 kaX_0_1; replace kaX_0_2 := cell_below bt_87 kaX_0_2; replace kaX_0_3 := cell_below bt_87 kaX_0_3; replace kaX_0_4 := cell_below bt_87 kaX_0_4; replace kaX_0_5 := cell_below bt_87 kaX_0_5; replace kaX_0_6 := cell_below bt_87 kaX_0_6; replace kaX_0_7 := cell_below bt_87 kaX_0_7; replace kaX_0_8 := cell_below bt_87 kaX_0_8; replace Ot_11 := Lib.hid (own_below Ot_11.out bt_87); replace Ot_14a := Lib.hid (own_below Ot_14a.out bt_87); replace Pt_51 := Lib.hid (own_below Pt_51.out bt_87); replace Pt_70 := Lib.hid (own_below Pt_70.out bt_87); replace Ot_44 := Lib.hid (own_below Ot_44.out bt_87); replace Ot_85 := Lib.hid (own_below Ot_85.out bt_87); clear bt_87
                           clear qt_87)
                        | (go_at_call 25
                           refine (Go.Proofs.Ytihibckijdfidaa.GiPossibleChanges.C (t_85) ((Go.Proofs.Ytihibckijdfidaa.PCover.Cover.mk t_87_id t_87_day t_87_zone t_87_grams t_87_paid t_87_from_ t_87_to_ t_87_leave t_87_arrive)) At_85 ct_85 _   (Lib.hid (own_cells Ot_85.out)) (Lib.hid (own_max Ot_85.out)) qt_88).mono ?_; rintro e_t_88 wt_88 ⟨At_88a, ct_88a, rfl, ot_88a, bt_88⟩; have Dt_88a_t_11 := Lib.hid (apart_call ot_88a Ot_11.out); have Dt_88a_t_14a := Lib.hid (apart_call ot_88a Ot_14a.out); have Dt_88a_t_21 := Lib.hid (apart_call ot_88a Pt_51.out); have Dt_88a_t_26a := Lib.hid (apart_call ot_88a Pt_70.out); have Dt_88a_t_44 := Lib.hid (apart_call ot_88a Ot_44.out); have Dt_88a_t_85 := Lib.hid (apart_call ot_88a Ot_85.out); have Dt_88a_aX_0 := Lib.hid (apart_callbox ot_88a kaX_0_0); have Ot_88a := Lib.hid (own_lower ot_88a HBwt_87.out.size); clear ot_88a; have HBwt_88 := Lib.hid (Below.step HBwt_87.out bt_88); replace kaX_0_0 := cell_below bt_88 kaX_0_0; replace kaX_0_1 := cell_below bt_88 kaX_0_1; replace kaX_0_2 := cell_below bt_88 kaX_0_2; replace kaX_0_3 := cell_below bt_88 kaX_0_3; replace kaX_0_4 := cell_below bt_88 kaX_0_4; replace kaX_0_5 := cell_below bt_88 kaX_0_5; replace kaX_0_6 := cell_below bt_88 kaX_0_6; replace kaX_0_7 := cell_below bt_88 kaX_0_7; replace kaX_0_8 := cell_below bt_88 kaX_0_8; replace Ot_11 := Lib.hid (own_below Ot_11.out bt_88); replace Ot_14a := Lib.hid (own_below Ot_14a.out bt_88); replace Pt_51 := Lib.hid (own_below Pt_51.out bt_88); replace Pt_70 := Lib.hid (own_below Pt_70.out bt_88); replace Ot_44 := Lib.hid (own_below Ot_44.out bt_88); replace Ot_85 := Lib.hid (own_below Ot_85.out bt_88); clear bt_88
                           clear qt_88))
                  replace H := bind_hid H; obtain ⟨t_96, qt_96, H⟩ := H; go_wp2_with fail; go_at_call 26; refine (Go.Proofs.Ytihibckijdfidaa.GlEqIntS.C (t_88a) (t_14a) At_88a ct_88a At_14a ct_14a _   (Lib.hid (own_cells Ot_88a.out)) (Lib.hid (own_max Ot_88a.out)) (Lib.hid (own_cells Ot_14a.out)) (Lib.hid (own_max Ot_14a.out)) qt_96).mono ?_; rintro e_t_96 wt_96 ⟨rfl, bt_96⟩; have HBwt_96 := Lib.hid (Below.step HBwt_88.out bt_96); replace kaX_0_0 := cell_below bt_96 kaX_0_0; replace kaX_0_1 := cell_below bt_96 kaX_0_1; replace kaX_0_2 := cell_below bt_96 kaX_0_2; replace kaX_0_3 := cell_below bt_96 kaX_0_3; replace kaX_0_4 := cell_below bt_96 kaX_0_4; replace kaX_0_5 := cell_below bt_96 kaX_0_5; replace kaX_0_6 := cell_below bt_96 kaX_0_6; replace kaX_0_7 := cell_below bt_96 kaX_0_7; replace kaX_0_8 := cell_below bt_96 kaX_0_8; replace Ot_11 := Lib.hid (own_below Ot_11.out bt_96); replace Ot_14a := Lib.hid (own_below Ot_14a.out bt_96); replace Pt_51 := Lib.hid (own_below Pt_51.out bt_96); replace Pt_70 := Lib.hid (own_below Pt_70.out bt_96); replace Ot_44 := Lib.hid (own_below Ot_44.out bt_96); replace Ot_85 := Lib.hid (own_below Ot_85.out bt_96); replace Ot_88a := Lib.hid (own_below Ot_88a.out bt_96); clear bt_96
                  cases t_96 with
                  | false =>
                    replace H := let_hid H; obtain ⟨t_97, ht_97, H⟩ := H; obtain rfl : t_97 = true := ht_97.symm; replace H := join_hid H; replace H := ite_t H; replace H := app_hid H; replace H := ite_t H; obtain rfl := ret_hid H; go_wp2_with fail; go_ret; exact ⟨rfl, HBwt_96.out⟩
                  | true =>
                    replace H := let_hid H; obtain ⟨t_97, ht_97, H⟩ := H; obtain rfl : t_97 = false := ht_97.symm; replace H := join_hid H; replace H := ite_f H; replace H := let_hid H; obtain ⟨t_101, ht_101, H⟩ := H; replace H := app_hid H
                    cases t_101 with
                    | false =>
                      replace H := ite_f H; replace H := bind_hid H; obtain ⟨t_107, qt_107, H⟩ := H; go_wp2_with fail; go_at_call 29; refine (Go.Proofs.Ytihibckijdfidaa.GlHeldIntS.C (lt_70) (1) At_26a ct_26a _   (Lib.hid (own_cells Pt_70.out)) (Lib.hid (own_max Pt_70.out)) qt_107).mono ?_; rintro e_t_107 wt_107 ⟨rfl, bt_107⟩; have HBwt_107 := Lib.hid (Below.step HBwt_96.out bt_107); replace kaX_0_0 := cell_below bt_107 kaX_0_0; replace kaX_0_1 := cell_below bt_107 kaX_0_1; replace kaX_0_2 := cell_below bt_107 kaX_0_2; replace kaX_0_3 := cell_below bt_107 kaX_0_3; replace kaX_0_4 := cell_below bt_107 kaX_0_4; replace kaX_0_5 := cell_below bt_107 kaX_0_5; replace kaX_0_6 := cell_below bt_107 kaX_0_6; replace kaX_0_7 := cell_below bt_107 kaX_0_7; replace kaX_0_8 := cell_below bt_107 kaX_0_8; replace Ot_11 := Lib.hid (own_below Ot_11.out bt_107); replace Ot_14a := Lib.hid (own_below Ot_14a.out bt_107); replace Pt_51 := Lib.hid (own_below Pt_51.out bt_107); replace Pt_70 := Lib.hid (own_below Pt_70.out bt_107); replace Ot_44 := Lib.hid (own_below Ot_44.out bt_107); replace Ot_85 := Lib.hid (own_below Ot_85.out bt_107); replace Ot_88a := Lib.hid (own_below Ot_88a.out bt_107); clear bt_107; replace H := let_hid H; obtain ⟨t_110, ht_110, H⟩ := H
                      cases t_110 with
                      | false =>
                        replace H := ite_f H; replace H := let_hid H; obtain ⟨t_114, ht_114, H⟩ := H
                        cases t_114 with
                        | false =>
                          replace H := ite_f H; obtain rfl := ret_hid H; go_wp2_with fail; go_ret; exact ⟨rfl, HBwt_107.out⟩
                        | true =>
                          replace H := ite_t H; obtain rfl := ret_hid H; go_wp2_with fail; go_ret; exact ⟨rfl, HBwt_107.out⟩
                      | true =>
                        replace H := ite_t H; obtain rfl := ret_hid H; go_wp2_with fail; go_ret; exact ⟨rfl, HBwt_107.out⟩
                    | true =>
                      replace H := ite_t H; obtain rfl := ret_hid H; go_wp2_with fail; go_ret; exact ⟨rfl, HBwt_96.out⟩
                | true =>
                  replace H := ite_t H; obtain rfl := ret_hid H; go_wp2_with fail; go_ret; exact ⟨rfl, HBwt_75.out⟩
              | true =>
                replace H := ite_t H; obtain rfl := ret_hid H; go_wp2_with fail; go_ret; exact ⟨rfl, HBwt_75.out⟩
          | true =>
            replace H := ite_t H; replace H := app_hid H; replace H := join_hid H; replace H := ite_t H; replace H := app_hid H; replace H := ite_t H; obtain rfl := ret_hid H; go_wp2_with fail; go_ret; exact ⟨rfl, HBwt_51.out⟩
      | true =>
        replace H := ite_t H; obtain rfl := ret_hid H; go_wp2_with fail; go_ret; exact ⟨rfl, HBwt_34.out⟩
  | true =>
    replace H := ite_t H; obtain rfl := ret_hid H; go_wp2_with fail; go_ret; exact ⟨rfl, HBwt_5.out⟩
end Go.Proofs.Ytihibckijdfidaa.GlFnExactPossibleChanges

namespace Go.Proofs.Ytihibckijdfidaa.QHRate
open Go.RowKit
open Go.Proofs.Ytihibckijdfidaa.GoP Go.Proofs.Ytihibckijdfidaa.QBase Go.Proofs.Ytihibckijdfidaa.QLoop Go.Proofs.Ytihibckijdfidaa.PRate 
theorem set_at {α : Type} {l : List α} {k : Nat} (x : α) (h : k < l.length) : idx (l.set k x) (k : Int) = some x := by rw [idx_nat, List.getElem?_set_self h]
theorem markF (l : List Rate) (k0 : Int) (hk0 : 1 ≤ k0) (hk1 : k0 ≤ 100000000) (hl : l.length ≤ 1048576) : ∃ v l', GlMarkRateS.P l k0 = some (v, l') ∧ v = k0 + 5 * (l.length : Int) := by
  obtain ⟨⟨v, l'⟩, h, hv⟩ : ∃ r : Int × List Rate, GlMarkRateS.P l k0 = some r ∧ r.1 = k0 + 5 * (l.length : Int) := by
    simp only [GlMarkRateS.P]
    refine cnt_ex (n := l.length) (Q := fun r : Int × List Rate => r.1 = k0 + 5 * (l.length : Int)) (fun k (s : List Rate × Int) => s.1.length = l.length ∧ s.2 = 5 * (k : Int) + k0) ?_ ?_ l.length 0 (l, k0) (by omega) ⟨rfl, by simp⟩
    · rintro k ⟨a, b⟩ nx hk ⟨h1, h2⟩ hn
      dsimp only at h1 h2
      obtain ⟨x, hx, hi⟩ := at_lt (l := a) (k := k) (by omega)
      have ha : k < a.length := by omega
      have w1 : IntKind.i64.wrap (b + 1) = b + 1 := wrap_in (by omega) (by omega)
      have w2 : IntKind.i64.wrap (b + 1 + 1) = b + 1 + 1 := wrap_in (by omega) (by omega)
      have w3 : IntKind.i64.wrap (b + 1 + 1 + 1) = b + 1 + 1 + 1 := wrap_in (by omega) (by omega)
      have w4 : IntKind.i64.wrap (b + 1 + 1 + 1 + 1) = b + 1 + 1 + 1 + 1 := wrap_in (by omega) (by omega)
      have w5 : IntKind.i64.wrap (b + 1 + 1 + 1 + 1 + 1) = b + 1 + 1 + 1 + 1 + 1 := wrap_in (by omega) (by omega)
      simp (disch := simp [ha]) only [GlMarkRateS.l0, unp2, hi, set_at, Option.bind_some, unRate, letK, appK, w1, w2, w3, w4, w5]
      exact hn _ ⟨by simpa using h1, by dsimp only; omega⟩
    · rintro ⟨a, b⟩ ⟨h1, h2⟩
      exact ⟨_, rfl, by dsimp only at h2 ⊢; omega⟩
  exact ⟨v, l', h, hv⟩
theorem markS (l : List Rate) (hl : l.length ≤ 1048576) : ∃ v l', GlMarkRateS.P l 1 = some (v, l') ∧ 0 ≤ v := by
  obtain ⟨v, l', h, hv⟩ := markF l 1 (by omega) (by omega) hl
  exact ⟨v, l', h, by omega⟩
end Go.Proofs.Ytihibckijdfidaa.QHRate

namespace Go.Proofs.Ytihibckijdfidaa.QInt
open Go.RowKit
open Go.Proofs.Ytihibckijdfidaa.GoP Go.Proofs.Ytihibckijdfidaa.QBase Go.Proofs.Ytihibckijdfidaa.QLoop

theorem eqI (l : List Int) : GlEqIntS.P l l = some true := by
  simp only [GlEqIntS.P, letK, iteK_if]
  rw [if_neg (by simp)]
  refine cnt_is true (fun _ _ => True) ?_ (fun s _ => rfl) () trivial
  intro k s nx hk _ hn
  obtain ⟨x, hx, hi⟩ := at_lt (l := l) (k := k) hk
  simp only [GlEqIntS.l0, hi, Option.bind_some, letK, appK, iteK_if]
  rw [if_neg (by simp)]
  exact hn () trivial
/-- 1, 2, 3 .. -/
def ups (n : Nat) : List Int := (List.range n).map (fun i : Nat => (i : Int) + 1)
theorem ups_at {n k : Nat} (h : k < n) : (ups n)[k]? = some ((k : Int) + 1) := by unfold ups; simp [h]
theorem ups_len (n : Nat) : (ups n).length = n := by simp [ups]
theorem markI (l : List Int) (hl : l.length ≤ 1099511627776) : GlMarkIntS.P l 1 = some ((l.length : Int) + 1, ups l.length) := by
  simp only [GlMarkIntS.P]
  refine cnt_is _ (fun k s => s.1.length = l.length ∧ s.2 = (k : Int) + 1 ∧ ∀ i, i < k → s.1[i]? = some ((i : Int) + 1)) ?_ ?_ (l, 1) ⟨rfl, rfl, fun i hi => by omega⟩
  · rintro k ⟨a, b⟩ nx hk ⟨h1, h2, h3⟩ hn
    dsimp only at h1 h2 h3
    obtain ⟨x, hx, hi⟩ := at_lt (l := a) (k := k) (by omega)
    simp only [GlMarkIntS.l0, unp2, hi, Option.bind_some, letK, appK]
    rw [wrap_in (by omega) (by omega)]
    refine hn _ ⟨by simpa using h1, by dsimp only; omega, fun i hi2 => ?_⟩
    dsimp only
    by_cases he : i = k
    · subst he; rw [List.getElem?_set_self (by omega), h2]
    · rw [List.getElem?_set_ne (by omega)]; exact h3 i (by omega)
  · rintro ⟨a, b⟩ ⟨h1, h2, h3⟩
    dsimp only at h1 h2 h3
    have : a = ups l.length := by
      apply List.ext_getElem?
      intro i
      by_cases hi : i < l.length
      · rw [h3 i hi, ups_at hi]
      · rw [List.getElem?_eq_none (by omega), List.getElem?_eq_none (by rw [ups_len]; omega)]
    simp only [GlMarkIntS.e0, unp2]
    rw [this, h2]
theorem heldI (n : Nat) (hl : n ≤ 1099511627776) : GlHeldIntS.P (ups n) 1 = some ((n : Int) + 1) := by
  simp only [GlHeldIntS.P]
  refine cnt_is _ (fun k s => s = (k : Int) + 1) ?_ ?_ 1 rfl
  · intro k s nx hk hI hn
    rw [ups_len] at hk
    have hi : idx (ups n) (k : Int) = some ((k : Int) + 1) := by rw [idx_nat, ups_at hk]
    simp only [GlHeldIntS.l0, hi, Option.bind_some, letK, appK, iteK_if]
    rw [if_neg (by simp [hI]), wrap_in (by omega) (by omega)]
    exact hn _ (by omega)
  · intro s hI
    simp only [GlHeldIntS.e0, letK]
    rw [hI, ups_len]
/-- a loop that gathers -/
theorem gather {α β R : Type} {l : List α} {p : α → Bool} {g : α → β} {f : Nat → List β → (List β → Option R) → (List β → Option R) → Option R} {fin : List β → Option R} (hl : l.length ≤ 1099511627776)
    (step : ∀ k nx x s, l[k]? = some x → s.length ≤ 1099511627776 → f k s nx fin = nx (if p x then s ++ [g x] else s)) : cntK f l.length 0 [] fin = fin ((l.filter p).map g) := by
  have key : ∀ m k, k + m = l.length → cntK f m k (((l.take k).filter p).map g) fin = fin ((l.filter p).map g) := by
    intro m
    induction m with
    | zero => intro k hk; obtain rfl : k = l.length := by omega
              rw [List.take_of_length_le (Nat.le_refl _)]; rfl
    | succ m ih =>
      intro k hk
      obtain ⟨x, hx, _⟩ := at_lt (l := l) (k := k) (by omega)
      show f k _ _ fin = _
      have hle : (((l.take k).filter p).map g).length ≤ 1099511627776 := by
        rw [List.length_map]
        have := List.length_filter_le p (l.take k)
        rw [List.length_take] at this
        omega
      rw [step k _ x _ hx hle, ← ih (k + 1) (by omega), take_next hx, List.filter_append, List.map_append]
      cases hp : p x <;> simp [List.filter, hp]
  exact key l.length 0 (by omega)
end Go.Proofs.Ytihibckijdfidaa.QInt

namespace Go.Proofs.Ytihibckijdfidaa.QL12Poss
open Go.RowKit
open Go.Proofs.Ytihibckijdfidaa.GoP Go.Proofs.Ytihibckijdfidaa.PlainStamp Go.Proofs.Ytihibckijdfidaa.QBase Go.Proofs.Ytihibckijdfidaa.Q12All Go.Proofs.Ytihibckijdfidaa.Q12One Go.Proofs.Ytihibckijdfidaa.QLoop Go.Proofs.Ytihibckijdfidaa.PCover Go.Proofs.Ytihibckijdfidaa.PRate Go.Proofs.Ytihibckijdfidaa.QHRateE Go.Proofs.Ytihibckijdfidaa.QHRate Go.Proofs.Ytihibckijdfidaa.QInt

theorem law_poss {fuel : Nat} (rs : List Rate) (x : Cover) (hr : rs.length ≤ 9223372036854775807) (hf : 100 < fuel) : GlFnExactPossibleChanges.P fuel rs x = some true := by
  have ht := toC x
  have hlen : (possRes rs x).1.length ≤ 16 := by
    unfold possRes
    split
    · exact poss_len rs x
    · simp
  obtain ⟨⟨p, q⟩, hs⟩ : ∃ y, y = possRes rs x := ⟨_, rfl⟩
  have e1 := possible_impl rs x hr
  have e2 := possible_spec (fuel := fuel) rs x hr hf
  rw [← hs] at e1 e2 hlen
  dsimp only at hlen
  obtain ⟨a, b, c, d, e, f, g, h, i⟩ := x
  simp only [GlFnExactPossibleChanges.P, unCover, szS rs hr, Option.bind_some, letK, iteK_if]
  by_cases h1 : rs.length ≤ 1048576
  · rw [if_neg (by rw [if_pos h1]; simp; omega)]
    obtain ⟨v2, l2, hm, hv2⟩ := markS rs h1
    have hv3 : ¬ v2 < 0 := by omega
    have hv4 : ¬ (p.length : Int) + 1 < 0 := by omega
    simp [ht, toS rs h1, e1, e2, bind2, joinK, appK, iteK_if, eqS, eqI, hm, hv3, markI p (by omega), heldI p.length (by omega), hv4]
  · rw [if_pos (by rw [if_neg h1]; simp)]
end Go.Proofs.Ytihibckijdfidaa.QL12Poss

