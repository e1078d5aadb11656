/- Texts on which the proofs of several laws stand, one behind the other (7 of 17). No condition of their own. -/
import Derived.Test.YtihibckijdfidaaGreatChecked
import Derived.Test.YtihibckijdfidaaGreatX12P1
import Derived.Test.YtihibckijdfidaaGreatX12P6
import Derived.WalkKit
import Derived.WalkSpells
import Derived.WalkLawsBesides
import Derived.BigQuiet
import Derived.OwnWalk
import Derived.Deep.LoopGhost
import Derived.Deep.QuietTactic
import Derived.IntWalk
import Derived.Lib.QuietBelow
import Derived.Test.YtihibckijdfidaaGreatX12P5
set_option linter.unusedVariables false
set_option linter.unusedSimpArgs false
namespace Go.Proofs.YtihibckijdfidaaGreat.GiTurningWeights
open Go.RowKit
open Go.Proofs.YtihibckijdfidaaGreat.Rowed Go.Proofs.YtihibckijdfidaaGreat.Turn Go.Proofs.YtihibckijdfidaaGreat.Aid Go.Proofs.YtihibckijdfidaaGreat.GoP Go.Proofs.YtihibckijdfidaaGreat.GoM

def l0 (rates : (List PRate.Rate)) (k0 : Nat) (s : (List Int)) (nx0 bk0 : (List Int) → Option ((List Int))) : Option ((List Int)) :=
 letK s fun weights_3l0 =>
 Option.bind (idx rates (k0 : Int)) fun (yt_7 : PRate.Rate) =>
 unRate yt_7 fun (t_7_zone : Int) (t_7_grams : Int) (t_7_from_ : Int) (t_7_until_ : Int) (t_7_cents : Int) =>
 letK (IntKind.i64.wrap (t_7_grams + 1)) fun (t_14 : Int) =>
 guardK (weights_3l0.length ≤ 1099511627776) <|
 letK (weights_3l0 ++ [t_14]) fun (t_16 : (List Int)) =>
 appK nx0 (t_16)

def e0  (s : (List Int)) : Option ((List Int)) :=
 letK s fun weights_3l0 =>
 Option.bind (GxSlicesSortIntInt.P weights_3l0) fun (lt_21 : (List Int)) =>
 Option.bind (GxSlicesCompactIntInt.P lt_21) fun (t_23 : (List Int)) =>
 some t_23

def P (rates : (List PRate.Rate)) : Option ((List Int)) :=
 letK ([1]) fun (t_1 : (List Int)) =>
 cntK (l0 rates) (rates.length) 0 (t_1) (e0 )

set_option maxRecDepth 100000 in
set_option maxHeartbeats 2000000 in
theorem C (rates : (List PRate.Rate)) (A0 : Option Addr) (c0 : Nat)  (w : World) (M0 : Hid (Cells w 5 A0 rates.length (PRate.flat rates))) (N0 : Hid (rates.length ≤ 9223372036854775807))  {r : (List Int)} (H : Hid (P rates = some r)) :
  Calls Tryz.prog 66 #[.slice A0 rates.length c0] w (fun e w' => ∃ A_r c_r, e = .returned (.slice A_r r.length c_r) ∧ w'.ownsRow w.heap.size 3 1 (.slice A_r r.length c_r) r.length (HelpInt.iv r) ∧ Below w.heap.size w w') := by
 have HB := Lib.hid (Below.refl w.heap.size w); unfold P at H; have N0o := N0.out; obtain ⟨i0_3, hi_3, o12, w12, z12⟩ := Aid.info_parts (P := Tryz.prog) (T := 3) (z := .int .i64 0) (s := 1) (b := 8) (by kernel_rfl)
 go_enter Tryz.func66, Tryz.ntmps66
 replace H := let_hid H; obtain ⟨t_1, ht_1, H⟩ := H; obtain ⟨e11, y11⟩ : ∃ x, w.alloc (.cells #[.int .i64 1] 3) = x := ⟨_, rfl⟩; have i12 : Below w.heap.size w e11 := (by rw [← y11]; exact (Below.refl _ _).alloc (Nat.le_refl _) _); have b11 := HB.out.size; have nt_1 : t_1.length = 1 := (by rw [← ht_1]; rfl)
 have Ot_1 : Hid (e11.ownsRow w.heap.size 3 1 (.slice (some ⟨w.heap.size, 0, none⟩) 1 1) 1 (HelpInt.iv t_1)) := by
  rw [← y11, ← ht_1]; have e_ : ([.int .i64 1] : List Value) = (HelpInt.iv ([1] : List Int)) := rfl; exact Lib.hid (own_laid (n := 1) b11 e_ rfl (by unfold maxLen; omega))
 clear b11; have l13 := Lib.hid ht_1; clear ht_1; replace nt_1 := Lib.hid nt_1; have t12 := Lib.hid (Below.step HB.out i12); clear i12; go_wp2_with fail; have hc_ := nt_1.out; have hv_ : (Value.slice (some ⟨w.heap.size, 0, none⟩) 1 1 : Value) = Value.slice (some ⟨w.heap.size, 0, none⟩) t_1.length 1 := (by rw [hc_])
 try rw [hv_]
 replace Ot_1 := Lib.hid (own_len hc_ Ot_1.out); clear hc_ hv_; go_wp2_with fail; go_loopg [9, 3] (rates.length) (fun m_ v9_ v3_ wr => ∃ (k0 : Nat) (g10 : (List Int)) (m10 : Option Addr) (k10 : Nat), k0 + m_ = rates.length ∧ v9_ = .int .i64 (k0 : Int) ∧ v3_ = .slice m10 g10.length k10 ∧ Hid (cntK (l0 rates) m_ k0 (g10) (e0 ) = some r) ∧ Hid (Below w.heap.size w wr) ∧ Hid (wr.ownsRow w.heap.size 3 1 (.slice m10 g10.length k10) g10.length (HelpInt.iv g10)))
 case atStart => exact ⟨0, _, _, _, by omega, rfl, rfl, H, t12, Ot_1⟩
 case round =>
  obtain ⟨k0, g10, m10, k10, hkm0, rfl, rfl, H, e10, a10⟩ := hrel; rename World => wr0
  cases gk with
  | zero =>
   obtain rfl : k0 = rates.length := (by omega); have hc0 : decide (((rates.length : Nat) : Int) < ((rates.length : Nat) : Int)) = false := (by simp); replace H := cnt_zero H; unfold e0 at H; replace H := let_hid H; obtain ⟨_, rfl, H⟩ := H; replace H := bind_hid H; obtain ⟨s12, x12, H⟩ := H; go_wp2_with fail; go_at_call 93; refine (GxSlicesSortIntInt.C (g10) m10 k10 w.heap.size _   a10 (Lib.hid (own_max a10.out))   x12).mono ?_; rintro o13 r13 ⟨rfl, h12, y10, s11⟩; have v10 := Lib.hid h12; have d11 := Lib.hid s11; replace y10 := Lib.hid y10; clear h12 s11; have t10 := Lib.hid (e10.out.grown d11.out e10.out.size (fun q hq => (a10.out.lt q hq).1)); clear a10 d11; replace H := bind_hid H; obtain ⟨t_23, f13, H⟩ := H; go_wp2_with fail; have hc0_ := y10.out; have w10 := Lib.hid (own_len hc0_ v10.out); have con_ := GxSlicesCompactIntInt.C (s12) m10 k10 w.heap.size _   w10 (Lib.hid (own_max w10.out)) (Lib.hid t10.out.size)  f13; rw [hc0_] at con_; clear hc0_ w10; go_at_call 94; refine con_.mono ?_; rintro i13 j13 ⟨e13, d13, rfl, m11, k12, x10⟩; have r12 := Lib.hid m11; have o11 := Lib.hid k12; replace x10 := Lib.hid x10; clear m11 k12; have y12 := Lib.hid (t10.out.grown o11.out t10.out.size (fun q hq => (v10.out.lt q hq).1)); clear v10 o11 x10; obtain rfl := ret_hid H; go_wp2_with fail; go_ret; exact ⟨e13, d13, rfl, r12.out, y12.out⟩
  | succ m0 =>
   have hlt0 : k0 < rates.length := (by omega); have hc0 : decide ((k0 : Int) < ((rates.length : Nat) : Int)) = true := (by simp; omega); replace H := cnt_succ H; unfold l0 at H; replace H := let_hid H; obtain ⟨_, rfl, H⟩ := H; replace H := idx_hid H; obtain ⟨nt_7, yt_7, et_7, lt_7, gt_7, H⟩ := H; obtain rfl : k0 = nt_7 := (by omega); clear et_7; obtain ⟨j12, c12, q11, m12, e12⟩ := yt_7; replace H := unRate_hid H; obtain ⟨k13, s13, zt_7, At_7, d12, l10, o10, n10, p10, q10⟩ := ORate.at_ M0.out lt_7; obtain rfl := Option.some.inj (gt_7.out.symm.trans d12); subst At_7; have j10 := cell_lt l10; replace l10 := cell_below e10.out l10; replace o10 := cell_below e10.out o10; replace n10 := cell_below e10.out n10; replace p10 := cell_below e10.out p10; replace q10 := cell_below e10.out q10; clear d12; have t13 : (0 : Int) ≤ (k0 : Int) := (by omega); have p13 : (k0 : Int) < ((rates.length : Nat) : Int) := (by omega); have q13 : ((k0 : Int)).toNat = k0 := (by omega); obtain ⟨d10, h10⟩ : ∃ x, wr0.alloc (.cells #[.int .i64 j12, .int .i64 c12, .int .i64 q11, .int .i64 m12, .int .i64 e12] 88) = x := ⟨_, rfl⟩; have f10 : Below wr0.heap.size wr0 d10 := (by rw [← h10]; exact (Below.refl _ _).alloc (Nat.le_refl _) _); have i10 := Lib.hid (apart_fresh a10.out); have p12 := Lib.hid (Below.step e10.out f10); have t11 := cell_below f10 l10; have v11 := cell_below f10 o10; have b12 := cell_below f10 n10; have g12 := cell_below f10 p10; have l11 := cell_below f10 q10; replace a10 := Lib.hid (own_below a10.out f10); clear f10; have z10 : d10.cell? ⟨wr0.heap.size, 0, none⟩ = some (.int .i64 j12) := (by rw [← h10]; exact box_new _ _ _ 0 _ rfl); have c11 : d10.cell? ⟨wr0.heap.size, 1, none⟩ = some (.int .i64 c12) := (by rw [← h10]; exact box_new _ _ _ 1 _ rfl); have h11 : d10.cell? ⟨wr0.heap.size, 2, none⟩ = some (.int .i64 q11) := (by rw [← h10]; exact box_new _ _ _ 2 _ rfl); have f12 : d10.cell? ⟨wr0.heap.size, 3, none⟩ = some (.int .i64 m12) := (by rw [← h10]; exact box_new _ _ _ 3 _ rfl); have w11 : d10.cell? ⟨wr0.heap.size, 4, none⟩ = some (.int .i64 e12) := (by rw [← h10]; exact box_new _ _ _ 4 _ rfl); replace H := let_hid H; obtain ⟨t_14, g13, H⟩ := H; obtain ⟨a13, i11⟩ : ∃ x, d10.alloc (.cells #[.int .i64 t_14] 3) = x := ⟨_, rfl⟩; have b10 : Below d10.heap.size d10 a13 := (by rw [← i11]; exact (Below.refl _ _).alloc (Nat.le_refl _) _); have g11 := Lib.hid (Below.step p12.out b10); have n12 := cell_below b10 t11; have z11 := cell_below b10 v11; have a11 := cell_below b10 b12; have p11 := cell_below b10 g12; have f11 := cell_below b10 l11; have s10 := cell_below b10 z10; have k11 := cell_below b10 c11; have a12 := cell_below b10 h11; have n11 := cell_below b10 f12; have l12 := cell_below b10 w11; replace a10 := Lib.hid (own_below a10.out b10); clear b10; replace H := guard_hid H; obtain ⟨n13, H⟩ := H; replace H := let_hid H; obtain ⟨t_16, r11, H⟩ := H; have c13 := Lib.hid r11; clear r11; have r10 := g11.out.size; go_wp2_with (at_builtin; refine wpList_append_own_at _ rfl _ _ 31 rfl w.heap.size 3 i0_3 (.int .i64 0) 1 8 Tryz.underlying31 hi_3 o12 w12 z12 rfl (by decide) _ _ _ rfl a10.out ⟨d10.heap.size, 0, none⟩ 1 1 [.int .i64 t_14] rfl rfl (news_new i11) (one_cells rfl) (by unfold maxLen; omega) (by omega) r10 ?_; intro vt_16 wt_16 ot_16 gt_16 zt_16 yt_16; clear zt_16; obtain ⟨b13, h13, rfl, x11⟩ := own_push c13.out (HelpInt.iv_snoc _ _) rfl ot_16; have q12 := Lib.hid x11; have j11 := Lib.hid yt_16; have c10 := Lib.hid gt_16; clear ot_16 gt_16 x11 yt_16; refine stop_in ?_); refine stop_out ?_; have v12 := Lib.hid (g11.out.grown c10.out r10 (fun q hq => (a10.out.lt q hq).1)); clear r10; have m13 : Hid (Apart (some ⟨b13, 0, none⟩) _) := Lib.hid (apart_app (Apart.symm i10.out) (fun a_ ha_ => by cases ha_; exact cell_lt s10) j11.out); replace n12 := cell_other n12 c10.out (apart_old a10.out j10); replace z11 := cell_other z11 c10.out (apart_old a10.out j10); replace a11 := cell_other a11 c10.out (apart_old a10.out j10)
   replace p11 := cell_other p11 c10.out (apart_old a10.out j10); replace f11 := cell_other f11 c10.out (apart_old a10.out j10); replace s10 := cell_other s10 c10.out (Apart.symm i10.out); replace k11 := cell_other k11 c10.out (Apart.symm i10.out); replace a12 := cell_other a12 c10.out (Apart.symm i10.out); replace n11 := cell_other n11 c10.out (Apart.symm i10.out); replace l12 := cell_other l12 c10.out (Apart.symm i10.out); clear l10 o10 n10 p10 q10 t11 v11 b12 g12 l11 z10 c11 h11 f12 w11; clear a10 j11 c10; replace H := app_hid H; go_wp2_with fail
   go_roundg m0
   case measure => omega
   case rel => exact ⟨k0 + 1, _, _, _, by omega, by go_num, rfl, H, v12, q12⟩
end Go.Proofs.YtihibckijdfidaaGreat.GiTurningWeights

namespace Go.Proofs.YtihibckijdfidaaGreat.GiChoices
open Go.RowKit
open Go.Proofs.YtihibckijdfidaaGreat.Rowed Go.Proofs.YtihibckijdfidaaGreat.Turn Go.Proofs.YtihibckijdfidaaGreat.Aid Go.Proofs.YtihibckijdfidaaGreat.GoP Go.Proofs.YtihibckijdfidaaGreat.GoM

def P (change : Int) (number : Int) (kept : Int) (all : (List Int)) : Option ((List Int)) :=
 letK (bits .and IntKind.i64 change number) fun (t_3 : Int) =>
 letK (t_3 == 0) fun (t_4 : Bool) =>
 iteK t_4
 (letK ([kept]) fun (t_6 : (List Int)) =>
 some t_6)
 (some all)

set_option maxRecDepth 100000 in
set_option maxHeartbeats 2000000 in
theorem C1 (change : Int) (number : Int) (kept : Int) (all : (List Int)) (A3 : Option Addr) (c3 : Nat)  (w : World) (M3 : Hid (Cells w 1 A3 all.length (HelpInt.iv all))) (N3 : Hid (all.length ≤ 9223372036854775807))  {r : (List Int)} (H : Hid (P change number kept all = some r)) :
  Calls Tryz.prog 65 #[.int .i64 change, .int .i64 number, .int .i64 kept, .slice A3 all.length c3] w (fun e w' => ∃ A_r c_r, e = .returned (.slice A_r r.length c_r) ∧ Hid ((A_r = A3 ∧ c_r = c3 ∧ r = all) ∨ w'.ownsRow w.heap.size 3 1 (.slice A_r r.length c_r) r.length (HelpInt.iv r)) ∧ Below w.heap.size w w') := by
 have HB := Lib.hid (Below.refl w.heap.size w)
 unfold P at H
 have N3o := N3.out
 go_enter Tryz.func65, Tryz.ntmps65
 replace H := let_hid H
 obtain ⟨t_3, ht_3, H⟩ := H
 replace H := let_hid H
 obtain ⟨t_4, ht_4, H⟩ := H
 cases t_4 with
 | false =>
  replace H := ite_f H
  obtain rfl := ret_hid H
  go_wp2_with fail
  go_ret
  exact ⟨_, _, rfl, (Lib.hid (.inl (by first | exact ⟨rfl, rfl, rfl⟩ | exact ⟨rfl, rfl⟩))), HB.out⟩
 | true =>
  replace H := ite_t H
  replace H := let_hid H
  obtain ⟨t_6, ht_6, H⟩ := H
  obtain ⟨w_t_6, hw_t_6⟩ : ∃ x, w.alloc (.cells #[.int .i64 kept] 3) = x := ⟨_, rfl⟩
  have bw_t_6 : Below w.heap.size w w_t_6 := by rw [← hw_t_6]; exact (Below.refl _ _).alloc (Nat.le_refl _) _
  have hs_t_6 := HB.out.size
  have nt_6 : t_6.length = 1 := by rw [← ht_6]; rfl
  have Ot_6 : Hid (w_t_6.ownsRow w.heap.size 3 1 (.slice (some ⟨w.heap.size, 0, none⟩) 1 1) 1 (HelpInt.iv t_6)) := by
   rw [← hw_t_6, ← ht_6]
   have e_ : ([.int .i64 kept] : List Value) = (HelpInt.iv ([kept] : List Int)) := rfl
   exact Lib.hid (own_laid (n := 1) hs_t_6 e_ rfl (by unfold maxLen; omega))
  clear hs_t_6
  have hht_6 := Lib.hid ht_6
  clear ht_6
  replace nt_6 := Lib.hid nt_6
  have HBw_t_6 := Lib.hid (Below.step HB.out bw_t_6)
  clear bw_t_6
  obtain rfl := ret_hid H
  go_wp2_with fail
  go_ret
  have hr_0 := nt_6.out
  replace Ot_6 := Lib.hid (own_len hr_0 Ot_6.out)
  exact ⟨(some ⟨w.heap.size, 0, none⟩), 1, (by first | (rw [hr_0]; done) | (rw [hr_0]; rfl)), (Lib.hid (.inr Ot_6.out)), HBw_t_6.out⟩

theorem C (change : Int) (number : Int) (kept : Int) (all : (List Int)) (A3 : Option Addr) (c3 : Nat)  (b0 : Nat) (w : World) (M3 : Hid (w.ownsRow b0 3 1 (.slice A3 all.length c3) all.length (HelpInt.iv all))) (N3 : Hid (all.length ≤ 9223372036854775807))  (LB : Hid (b0 ≤ w.heap.size)) {r : (List Int)} (H : Hid (P change number kept all = some r)) :
  Calls Tryz.prog 65 #[.int .i64 change, .int .i64 number, .int .i64 kept, .slice A3 all.length c3] w (fun e w' => ∃ A_r c_r, e = .returned (.slice A_r r.length c_r) ∧ w'.ownsRow b0 3 1 (.slice A_r r.length c_r) r.length (HelpInt.iv r) ∧ w.grownBy w' (Value.slice A3 all.length c3).ownBlock ∧ GoK.From w A3 A_r) := by
 refine (C1 change number kept all A3 c3 w (Lib.hid (own_cells M3.out)) N3 H).mono ?_; rintro e_ w_ ⟨A_, c_, rfl, h_, hb_⟩
 rcases h_.out with ⟨h1_, h2_, h3_⟩ | h_
 ·
  refine ⟨_, _, rfl, ?_, grown_below (Aid.grown_refl _ _) hb_, ?_⟩
  ·
   rw [h1_, h2_, h3_]; exact own_below M3.out hb_
  ·
   rw [h1_]; exact GoK.from_self
 ·
  exact ⟨_, _, rfl, GoK.own_baseM LB.out h_, grown_below (Aid.grown_refl _ _) hb_, GoK.from_own h_⟩
end Go.Proofs.YtihibckijdfidaaGreat.GiChoices

namespace Go.Proofs.YtihibckijdfidaaGreat.GiAllZones
open Go.RowKit
open Go.Proofs.YtihibckijdfidaaGreat.Rowed Go.Proofs.YtihibckijdfidaaGreat.Turn Go.Proofs.YtihibckijdfidaaGreat.Aid Go.Proofs.YtihibckijdfidaaGreat.GoP Go.Proofs.YtihibckijdfidaaGreat.GoM

def l0  (k0 : Nat) (s : (List Int)) (nx0 bk0 : (List Int) → Option ((List Int))) : Option ((List Int)) :=
 letK s fun zones_1l0 =>
 guardK (zones_1l0.length ≤ 1099511627776) <|
 letK (zones_1l0 ++ [(k0 : Int)]) fun (t_10 : (List Int)) =>
 appK nx0 (t_10)

def e0  (s : (List Int)) : Option ((List Int)) :=
 letK s fun zones_1l0 =>
 some zones_1l0

def P  : Option ((List Int)) :=
 cntK (l0 ) (10) 0 (([] : List Int)) (e0 )

set_option maxRecDepth 100000 in
set_option maxHeartbeats 2000000 in
theorem C    (w : World)   {r : (List Int)} (H : Hid (P  = some r)) :
  Calls Tryz.prog 67 #[] w (fun e w' => ∃ A_r c_r, e = .returned (.slice A_r r.length c_r) ∧ w'.ownsRow w.heap.size 3 1 (.slice A_r r.length c_r) r.length (HelpInt.iv r) ∧ Below w.heap.size w w') := by
 have HB := Lib.hid (Below.refl w.heap.size w); unfold P at H; obtain ⟨i0_3, hi_3, v10, q10, y10⟩ := Aid.info_parts (P := Tryz.prog) (T := 3) (z := .int .i64 0) (s := 1) (b := 8) (by kernel_rfl)
 go_enter Tryz.func67, Tryz.ntmps67
 obtain ⟨k10, j10⟩ : ∃ x, w.alloc (.cells #[] 3) = x := ⟨_, rfl⟩; have m10 : Below w.heap.size w k10 := (by rw [← j10]; exact (Below.refl _ _).alloc (Nat.le_refl _) _); have Ot_1 : Hid (k10.ownsRow w.heap.size 3 1 (.slice (some ⟨w.heap.size, 0, none⟩) 0 0) 0 []) := Lib.hid (by rw [← j10]; exact own_empty HB.out.size); have s10 := Lib.hid (Below.step HB.out m10); clear m10; go_wp2_with fail; go_loopg [4, 1] (10) (fun m_ v4_ v1_ wr => ∃ (k0 : Nat) (b10 : (List Int)) (c10 : Option Addr) (d10 : Nat), k0 + m_ = 10 ∧ v4_ = .int .i64 (k0 : Int) ∧ v1_ = .slice c10 b10.length d10 ∧ Hid (cntK (l0 ) m_ k0 (b10) (e0 ) = some r) ∧ Hid (Below w.heap.size w wr) ∧ Hid (wr.ownsRow w.heap.size 3 1 (.slice c10 b10.length d10) b10.length (HelpInt.iv b10)))
 case atStart => exact ⟨0, _, _, _, by omega, rfl, rfl, H, s10, Ot_1⟩
 case round =>
  obtain ⟨k0, b10, c10, d10, hkm0, rfl, rfl, H, l10, a10⟩ := hrel; rename World => wr0
  cases gk with
  | zero =>
   obtain rfl : k0 = 10 := (by omega); have hc0 : decide (((10 : Nat) : Int) < ((10 : Nat) : Int)) = false := (by simp); replace H := cnt_zero H; unfold e0 at H; replace H := let_hid H; obtain ⟨_, rfl, H⟩ := H; obtain rfl := ret_hid H; go_wp2_with fail; go_ret; exact ⟨c10, d10, rfl, a10.out, l10.out⟩
  | succ m0 =>
   have hlt0 : k0 < 10 := (by omega); have hc0 : decide ((k0 : Int) < ((10 : Nat) : Int)) = true := (by simp; omega); replace H := cnt_succ H; have hd0 : decide ((k0 : Int) < 10) = true := (by simp; omega); unfold l0 at H; replace H := let_hid H; obtain ⟨_, rfl, H⟩ := H; obtain ⟨r10, o10⟩ : ∃ x, wr0.alloc (.cells #[.int .i64 (k0 : Int)] 3) = x := ⟨_, rfl⟩; have e10 : Below wr0.heap.size wr0 r10 := (by rw [← o10]; exact (Below.refl _ _).alloc (Nat.le_refl _) _); have n10 := Lib.hid (Below.step l10.out e10); replace a10 := Lib.hid (own_below a10.out e10); clear e10; replace H := guard_hid H; obtain ⟨a11, H⟩ := H; replace H := let_hid H; obtain ⟨t_10, h10, H⟩ := H; have x10 := Lib.hid h10; clear h10; have f10 := n10.out.size; go_wp2_with (at_builtin; refine wpList_append_own_at _ rfl _ _ 31 rfl w.heap.size 3 i0_3 (.int .i64 0) 1 8 Tryz.underlying31 hi_3 v10 q10 y10 rfl (by decide) _ _ _ rfl a10.out ⟨wr0.heap.size, 0, none⟩ 1 1 [.int .i64 (k0 : Int)] rfl rfl (news_new o10) (one_cells rfl) (by unfold maxLen; omega) (by omega) f10 ?_; intro vt_10 wt_10 ot_10 gt_10 zt_10 yt_10; clear zt_10; obtain ⟨b11, z10, rfl, i10⟩ := own_push x10.out (HelpInt.iv_snoc _ _) rfl ot_10; have p10 := Lib.hid i10; have w10 := Lib.hid yt_10; have g10 := Lib.hid gt_10; clear ot_10 gt_10 i10 yt_10; refine stop_in ?_); refine stop_out ?_; have t10 := Lib.hid (n10.out.grown g10.out f10 (fun q hq => (a10.out.lt q hq).1)); clear f10; clear a10 w10 g10; replace H := app_hid H; go_wp2_with fail
   go_roundg m0
   case measure => omega
   case rel => exact ⟨k0 + 1, _, _, _, by omega, by go_num, rfl, H, t10, p10⟩
end Go.Proofs.YtihibckijdfidaaGreat.GiAllZones

namespace Go.Proofs.YtihibckijdfidaaGreat.GiTurningDays
open Go.RowKit
open Go.Proofs.YtihibckijdfidaaGreat.Rowed Go.Proofs.YtihibckijdfidaaGreat.Turn Go.Proofs.YtihibckijdfidaaGreat.Aid Go.Proofs.YtihibckijdfidaaGreat.GoP Go.Proofs.YtihibckijdfidaaGreat.GoM

def l0 (list : (List PRate.Rate)) (k0 : Nat) (s : (List Int)) (nx0 bk0 : (List Int) → Option ((List Int))) : Option ((List Int)) :=
 letK s fun days_3l0 =>
 Option.bind (idx list (k0 : Int)) fun (yt_7 : PRate.Rate) =>
 unRate yt_7 fun (t_7_zone : Int) (t_7_grams : Int) (t_7_from_ : Int) (t_7_until_ : Int) (t_7_cents : Int) =>
 letK (IntKind.i64.wrap (t_7_until_ + 1)) fun (t_16 : Int) =>
 letK ([t_7_from_, t_16]) fun (t_17 : (List Int)) =>
 guardK (days_3l0.length + t_17.length ≤ 1099511627776) <|
 letK (days_3l0 ++ t_17) fun (t_18 : (List Int)) =>
 appK nx0 (t_18)

def e0  (s : (List Int)) : Option ((List Int)) :=
 letK s fun days_3l0 =>
 Option.bind (GxSlicesSortIntInt.P days_3l0) fun (lt_23 : (List Int)) =>
 Option.bind (GxSlicesCompactIntInt.P lt_23) fun (t_25 : (List Int)) =>
 some t_25

def P (list : (List PRate.Rate)) : Option ((List Int)) :=
 cntK (l0 list) (list.length) 0 (([] : List Int)) (e0 )

set_option maxRecDepth 100000 in
set_option maxHeartbeats 2000000 in
theorem C (list : (List PRate.Rate)) (A0 : Option Addr) (c0 : Nat)  (w : World) (M0 : Hid (Cells w 5 A0 list.length (PRate.flat list))) (N0 : Hid (list.length ≤ 9223372036854775807))  {r : (List Int)} (H : Hid (P list = some r)) :
  Calls Tryz.prog 68 #[.slice A0 list.length c0] w (fun e w' => ∃ A_r c_r, e = .returned (.slice A_r r.length c_r) ∧ w'.ownsRow w.heap.size 3 1 (.slice A_r r.length c_r) r.length (HelpInt.iv r) ∧ Below w.heap.size w w') := by
 have HB := Lib.hid (Below.refl w.heap.size w); unfold P at H; have N0o := N0.out; obtain ⟨i0_3, hi_3, a13, z12, x12⟩ := Aid.info_parts (P := Tryz.prog) (T := 3) (z := .int .i64 0) (s := 1) (b := 8) (by kernel_rfl)
 go_enter Tryz.func68, Tryz.ntmps68
 obtain ⟨n12, l12⟩ : ∃ x, w.alloc (.cells #[] 3) = x := ⟨_, rfl⟩; have h11 : Below w.heap.size w n12 := (by rw [← l12]; exact (Below.refl _ _).alloc (Nat.le_refl _) _); have Ot_1 : Hid (n12.ownsRow w.heap.size 3 1 (.slice (some ⟨w.heap.size, 0, none⟩) 0 0) 0 []) := Lib.hid (by rw [← l12]; exact own_empty HB.out.size); have e13 := Lib.hid (Below.step HB.out h11); clear h11; go_wp2_with fail; go_loopg [9, 3] (list.length) (fun m_ v9_ v3_ wr => ∃ (k0 : Nat) (e10 : (List Int)) (k10 : Option Addr) (l10 : Nat), k0 + m_ = list.length ∧ v9_ = .int .i64 (k0 : Int) ∧ v3_ = .slice k10 e10.length l10 ∧ Hid (cntK (l0 list) m_ k0 (e10) (e0 ) = some r) ∧ Hid (Below w.heap.size w wr) ∧ Hid (wr.ownsRow w.heap.size 3 1 (.slice k10 e10.length l10) e10.length (HelpInt.iv e10)))
 case atStart => exact ⟨0, _, _, _, by omega, rfl, rfl, H, e13, Ot_1⟩
 case round =>
  obtain ⟨k0, e10, k10, l10, hkm0, rfl, rfl, H, g10, a10⟩ := hrel; rename World => wr0
  cases gk with
  | zero =>
   obtain rfl : k0 = list.length := (by omega); have hc0 : decide (((list.length : Nat) : Int) < ((list.length : Nat) : Int)) = false := (by simp); replace H := cnt_zero H; unfold e0 at H; replace H := let_hid H; obtain ⟨_, rfl, H⟩ := H; replace H := bind_hid H; obtain ⟨k13, j13, H⟩ := H; go_wp2_with fail; go_at_call 93; refine (GxSlicesSortIntInt.C (e10) k10 l10 w.heap.size _   a10 (Lib.hid (own_max a10.out))   j13).mono ?_; rintro t13 b14 ⟨rfl, c12, e11, r12⟩; have v10 := Lib.hid c12; have o11 := Lib.hid r12; replace e11 := Lib.hid e11; clear c12 r12; have x10 := Lib.hid (g10.out.grown o11.out g10.out.size (fun q hq => (a10.out.lt q hq).1)); clear a10 o11; replace H := bind_hid H; obtain ⟨t_25, y12, H⟩ := H; go_wp2_with fail; have hc0_ := e11.out; have z10 := Lib.hid (own_len hc0_ v10.out); have con_ := GxSlicesCompactIntInt.C (k13) k10 l10 w.heap.size _   z10 (Lib.hid (own_max z10.out)) (Lib.hid x10.out.size)  y12; rw [hc0_] at con_; clear hc0_ z10; go_at_call 94; refine con_.mono ?_; rintro z13 o13 ⟨f13, c13, rfl, o12, e12, d11⟩; have i13 := Lib.hid o12; have n11 := Lib.hid e12; replace d11 := Lib.hid d11; clear o12 e12; have b13 := Lib.hid (x10.out.grown n11.out x10.out.size (fun q hq => (v10.out.lt q hq).1)); clear v10 n11 d11; obtain rfl := ret_hid H; go_wp2_with fail; go_ret; exact ⟨f13, c13, rfl, i13.out, b13.out⟩
  | succ m0 =>
   have hlt0 : k0 < list.length := (by omega); have hc0 : decide ((k0 : Int) < ((list.length : Nat) : Int)) = true := (by simp; omega); replace H := cnt_succ H; unfold l0 at H; replace H := let_hid H; obtain ⟨_, rfl, H⟩ := H; replace H := idx_hid H; obtain ⟨nt_7, yt_7, et_7, lt_7, gt_7, H⟩ := H; obtain rfl : k0 = nt_7 := (by omega); clear et_7; obtain ⟨t11, v12, o10, l11, i11⟩ := yt_7; replace H := unRate_hid H; obtain ⟨v13, a14, zt_7, At_7, x11, m10, s10, q10, r10, p10⟩ := ORate.at_ M0.out lt_7; obtain rfl := Option.some.inj (gt_7.out.symm.trans x11); subst At_7; have n10 := cell_lt m10; replace m10 := cell_below g10.out m10; replace s10 := cell_below g10.out s10; replace q10 := cell_below g10.out q10; replace r10 := cell_below g10.out r10; replace p10 := cell_below g10.out p10; clear x11; have n13 : (0 : Int) ≤ (k0 : Int) := (by omega); have x13 : (k0 : Int) < ((list.length : Nat) : Int) := (by omega); have l13 : ((k0 : Int)).toNat = k0 := (by omega); obtain ⟨b10, j10⟩ : ∃ x, wr0.alloc (.cells #[.int .i64 t11, .int .i64 v12, .int .i64 o10, .int .i64 l11, .int .i64 i11] 88) = x := ⟨_, rfl⟩; have f10 : Below wr0.heap.size wr0 b10 := (by rw [← j10]; exact (Below.refl _ _).alloc (Nat.le_refl _) _); have i10 := Lib.hid (apart_fresh a10.out); have s11 := Lib.hid (Below.step g10.out f10); have t12 := cell_below f10 m10; have f11 := cell_below f10 s10; have m12 := cell_below f10 q10; have k12 := cell_below f10 r10; have b12 := cell_below f10 p10; replace a10 := Lib.hid (own_below a10.out f10); clear f10; have c11 : b10.cell? ⟨wr0.heap.size, 0, none⟩ = some (.int .i64 t11) := (by rw [← j10]; exact box_new _ _ _ 0 _ rfl); have a12 : b10.cell? ⟨wr0.heap.size, 1, none⟩ = some (.int .i64 v12) := (by rw [← j10]; exact box_new _ _ _ 1 _ rfl); have m11 : b10.cell? ⟨wr0.heap.size, 2, none⟩ = some (.int .i64 o10) := (by rw [← j10]; exact box_new _ _ _ 2 _ rfl); have r11 : b10.cell? ⟨wr0.heap.size, 3, none⟩ = some (.int .i64 l11) := (by rw [← j10]; exact box_new _ _ _ 3 _ rfl); have w12 : b10.cell? ⟨wr0.heap.size, 4, none⟩ = some (.int .i64 i11) := (by rw [← j10]; exact box_new _ _ _ 4 _ rfl); replace H := let_hid H; obtain ⟨t_16, r13, H⟩ := H; replace H := let_hid H; obtain ⟨t_17, t10, H⟩ := H; obtain ⟨k11, w11⟩ : ∃ x, b10.alloc (.cells #[.int .i64 o10, .int .i64 t_16] 3) = x := ⟨_, rfl⟩; have d10 : Below b10.heap.size b10 k11 := (by rw [← w11]; exact (Below.refl _ _).alloc (Nat.le_refl _) _); have j12 := s11.out.size; have b11 : t_17.length = 2 := (by rw [← t10]; rfl)
   have h10 : Hid (k11.ownsRow w.heap.size 3 1 (.slice (some ⟨b10.heap.size, 0, none⟩) 2 2) 2 (HelpInt.iv t_17)) := by
    rw [← w11, ← t10]; have e_ : ([.int .i64 o10, .int .i64 t_16] : List Value) = (HelpInt.iv ([o10, t_16] : List Int)) := rfl; exact Lib.hid (own_laid (n := 2) j12 e_ rfl (by unfold maxLen; omega))
   clear j12; have s13 := Lib.hid t10; clear t10; replace b11 := Lib.hid b11; have z11 := Lib.hid (apart_fresh a10.out); have p13 := Lib.hid (apart_box c11); have g12 := Lib.hid (Below.step s11.out d10); have j11 := cell_below d10 t12; have s12 := cell_below d10 f11; have p12 := cell_below d10 m12; have g11 := cell_below d10 k12; have f12 := cell_below d10 b12; have a11 := cell_below d10 c11; have i12 := cell_below d10 a12; have p11 := cell_below d10 m11; have h12 := cell_below d10 r11; have y11 := cell_below d10 w12; replace a10 := Lib.hid (own_below a10.out d10); clear d10; have hc_ := b11.out; have hv_ : (Value.slice (some ⟨b10.heap.size, 0, none⟩) 2 2 : Value) = Value.slice (some ⟨b10.heap.size, 0, none⟩) t_17.length 2 := (by rw [hc_]); replace h10 := Lib.hid (own_len hc_ h10.out); replace H := guard_hid H; obtain ⟨q13, H⟩ := H; replace H := let_hid H; obtain ⟨t_18, v11, H⟩ := H; have d13 := Lib.hid v11; clear v11; have w10 := g12.out.size; have d12 := Lib.hid ((own_cells h10.out)); go_wp2_with (at_builtin; skip; refine append_spread rfl _ _ 31 rfl w.heap.size 3 i0_3 (.int .i64 0) 1 8 Tryz.underlying31 hi_3 a13 z12 x12 rfl (by decide) k10 l10 e10.length _ rfl a10.out (some ⟨b10.heap.size, 0, none⟩) t_17.length 2 (HelpInt.iv t_17) rfl (own_room h10.out) d12.out (fun u hu => by unfold HelpInt.iv at hu; obtain ⟨y_, _, rfl⟩ := List.mem_map.1 hu; rfl) (by unfold maxLen; omega) (by omega) w10 ?_; intro vt_18 wt_18 ot_18 gt_18 yt_18; obtain ⟨q11, m13, rfl, q12⟩ := own_pushS (f := HelpInt.iv) d13.out (by simp [HelpInt.iv]) rfl ot_18; have g13 := Lib.hid q12; have y10 := Lib.hid yt_18; have c10 := Lib.hid gt_18; clear ot_18 gt_18 q12 yt_18; refine stop_in ?_); refine stop_out ?_; clear d12 hc_ hv_; have h13 := Lib.hid (g12.out.grown c10.out w10 (fun q hq => (a10.out.lt q hq).1)); clear w10; have y13 : Hid (Apart q11 _) := Lib.hid (apart_app (Apart.symm i10.out) (fun a_ ha_ => by cases ha_; exact cell_lt a11) y10.out); have w13 : Hid (Apart q11 _) := Lib.hid (apart_app (Apart.symm z11.out) (fun a_ ha_ => (own_lt h10.out a_ ha_).2) y10.out); replace j11 := cell_other j11 c10.out (apart_old a10.out n10); replace s12 := cell_other s12 c10.out (apart_old a10.out n10); replace p12 := cell_other p12 c10.out (apart_old a10.out n10); replace g11 := cell_other g11 c10.out (apart_old a10.out n10); replace f12 := cell_other f12 c10.out (apart_old a10.out n10); replace a11 := cell_other a11 c10.out (Apart.symm i10.out); replace i12 := cell_other i12 c10.out (Apart.symm i10.out); replace p11 := cell_other p11 c10.out (Apart.symm i10.out); replace h12 := cell_other h12 c10.out (Apart.symm i10.out); replace y11 := cell_other y11 c10.out (Apart.symm i10.out); replace h10 := Lib.hid (own_other h10.out c10.out (Apart.symm z11.out)); clear m10 s10 q10 r10 p10 t12 f11 m12 k12 b12 c11 a12 m11 r11 w12; clear a10 y10 c10; replace H := app_hid H; go_wp2_with fail
   go_roundg m0
   case measure => omega
   case rel => exact ⟨k0 + 1, _, _, _, by omega, by go_num, rfl, H, h13, g13⟩
end Go.Proofs.YtihibckijdfidaaGreat.GiTurningDays

namespace Go.Proofs.YtihibckijdfidaaGreat.GiRateOn
open Go.RowKit
open Go.Proofs.YtihibckijdfidaaGreat.Rowed Go.Proofs.YtihibckijdfidaaGreat.Turn Go.Proofs.YtihibckijdfidaaGreat.Aid Go.Proofs.YtihibckijdfidaaGreat.GoP Go.Proofs.YtihibckijdfidaaGreat.GoM

def l0 (list : (List PRate.Rate)) (day : Int) (zone : Int) (grams : Int) (k0 : Nat) (s : Unit) (nx0 bk0 : Unit → Option (Int)) : Option (Int) :=
 
 Option.bind (idx list (k0 : Int)) fun (yt_5 : PRate.Rate) =>
 unRate yt_5 fun (t_5_zone : Int) (t_5_grams : Int) (t_5_from_ : Int) (t_5_until_ : Int) (t_5_cents : Int) =>
 letK (t_5_zone == zone) fun (t_12 : Bool) =>
 joinK (fun (t_18 : Bool) =>
 joinK (fun (t_26 : Bool) =>
 iteK t_26
 (some t_5_cents)
 (appK nx0 ())) fun jt_26 => iteK t_18 (Option.bind (GiWithin.P day t_5_from_ t_5_until_) fun (t_25 : Bool) =>
 appK jt_26 t_25) (appK jt_26 false)) fun jt_18 => iteK t_12 (letK (decide (grams ≤ t_5_grams)) fun (t_17 : Bool) =>
 appK jt_18 t_17) (appK jt_18 false)

def e0  (s : Unit) : Option (Int) :=
 
 some 0

def P (list : (List PRate.Rate)) (day : Int) (zone : Int) (grams : Int) : Option (Int) :=
 cntK (l0 list day zone grams) (list.length) 0 () (e0 )

set_option maxRecDepth 100000 in
set_option maxHeartbeats 2000000 in
theorem C (list : (List PRate.Rate)) (day : Int) (zone : Int) (grams : Int) (A0 : Option Addr) (c0 : Nat)  (w : World) (M0 : Hid (Cells w 5 A0 list.length (PRate.flat list))) (N0 : Hid (list.length ≤ 9223372036854775807))  {r : Int} (H : Hid (P list day zone grams = some r)) :
  Calls Tryz.prog 69 #[.slice A0 list.length c0, .int .i64 day, .int .i64 zone, .int .i64 grams] w (Gives (.int .i64 r) w) := by
 have HB := Lib.hid (Below.refl w.heap.size w); unfold P at H; have N0o := N0.out
 go_enter Tryz.func69, Tryz.ntmps69
 go_wp2_with fail; go_loopg [13] (list.length) (fun m_ v13_ wr => ∃ (k0 : Nat) , k0 + m_ = list.length ∧ v13_ = .int .i64 (k0 : Int) ∧ Hid (cntK (l0 list day zone grams) m_ k0 () (e0 ) = some r) ∧ Hid (Below w.heap.size w wr))
 case atStart => exact ⟨0, by omega, rfl, H, HB⟩
 case round =>
  obtain ⟨k0, hkm0, rfl, H, b10⟩ := hrel; rename World => wr0
  cases gk with
  | zero =>
   obtain rfl : k0 = list.length := (by omega); have hc0 : decide (((list.length : Nat) : Int) < ((list.length : Nat) : Int)) = false := (by simp); replace H := cnt_zero H; unfold e0 at H; obtain rfl := ret_hid H; go_wp2_with fail; go_ret; exact ⟨rfl, b10.out⟩
  | succ m0 =>
   have hlt0 : k0 < list.length := (by omega); have hc0 : decide ((k0 : Int) < ((list.length : Nat) : Int)) = true := (by simp; omega); replace H := cnt_succ H; unfold l0 at H; replace H := idx_hid H; obtain ⟨nt_5, yt_5, et_5, lt_5, gt_5, H⟩ := H; obtain rfl : k0 = nt_5 := (by omega); clear et_5; obtain ⟨n10, q10, l10, k10, v10⟩ := yt_5; replace H := unRate_hid H; obtain ⟨m11, e11, zt_5, At_5, r10, c10, e10, i10, g10, j10⟩ := ORate.at_ M0.out lt_5; obtain rfl := Option.some.inj (gt_5.out.symm.trans r10); subst At_5; have h11 := cell_lt c10; replace c10 := cell_below b10.out c10; replace e10 := cell_below b10.out e10; replace i10 := cell_below b10.out i10; replace g10 := cell_below b10.out g10; replace j10 := cell_below b10.out j10; clear r10; have f11 : (0 : Int) ≤ (k0 : Int) := (by omega); have j11 : (k0 : Int) < ((list.length : Nat) : Int) := (by omega); have l11 : ((k0 : Int)).toNat = k0 := (by omega); obtain ⟨f10, h10⟩ : ∃ x, wr0.alloc (.cells #[.int .i64 n10, .int .i64 q10, .int .i64 l10, .int .i64 k10, .int .i64 v10] 88) = x := ⟨_, rfl⟩; have d10 : Below wr0.heap.size wr0 f10 := (by rw [← h10]; exact (Below.refl _ _).alloc (Nat.le_refl _) _); have m10 := Lib.hid (Below.step b10.out d10); have w10 := cell_below d10 c10; have s10 := cell_below d10 e10; have c11 := cell_below d10 i10; have z10 := cell_below d10 g10; have b11 := cell_below d10 j10; clear d10; have a11 : f10.cell? ⟨wr0.heap.size, 0, none⟩ = some (.int .i64 n10) := (by rw [← h10]; exact box_new _ _ _ 0 _ rfl); have t10 : f10.cell? ⟨wr0.heap.size, 1, none⟩ = some (.int .i64 q10) := (by rw [← h10]; exact box_new _ _ _ 1 _ rfl); have y10 : f10.cell? ⟨wr0.heap.size, 2, none⟩ = some (.int .i64 l10) := (by rw [← h10]; exact box_new _ _ _ 2 _ rfl); have x10 : f10.cell? ⟨wr0.heap.size, 3, none⟩ = some (.int .i64 k10) := (by rw [← h10]; exact box_new _ _ _ 3 _ rfl); have o10 : f10.cell? ⟨wr0.heap.size, 4, none⟩ = some (.int .i64 v10) := (by rw [← h10]; exact box_new _ _ _ 4 _ rfl); replace H := let_hid H; obtain ⟨t_12, i11, H⟩ := H; replace H := join_hid H
   cases t_12 with
   | false =>
    replace H := ite_f H; replace H := app_hid H; replace H := join_hid H; replace H := ite_f H; replace H := app_hid H; replace H := ite_f H; replace H := app_hid H; go_wp2_with fail; clear c10 e10 i10 g10 j10
    go_roundg m0
    case measure => omega
    case rel => exact ⟨k0 + 1, by omega, by go_num, H, m10⟩
   | true =>
    replace H := ite_t H; replace H := let_hid H; obtain ⟨t_17, g11, H⟩ := H; replace H := app_hid H; replace H := join_hid H
    cases t_17 with
    | false =>
     replace H := ite_f H; replace H := app_hid H; replace H := ite_f H; replace H := app_hid H; go_wp2_with fail; clear c10 e10 i10 g10 j10
     go_roundg m0
     case measure => omega
     case rel => exact ⟨k0 + 1, by omega, by go_num, H, m10⟩
    | true =>
     replace H := ite_t H; replace H := bind_hid H; obtain ⟨t_25, d11, H⟩ := H; go_wp2_with fail; clear c10 e10 i10 g10 j10; go_at_call 53; refine (GiWithin.C (day) (l10) (k10)  _    d11).mono ?_; rintro n11 k11 ⟨rfl, a10⟩; have p10 := Lib.hid (Below.step m10.out a10); replace w10 := cell_below a10 w10; replace s10 := cell_below a10 s10; replace c11 := cell_below a10 c11; replace z10 := cell_below a10 z10; replace b11 := cell_below a10 b11; replace a11 := cell_below a10 a11; replace t10 := cell_below a10 t10; replace y10 := cell_below a10 y10; replace x10 := cell_below a10 x10; replace o10 := cell_below a10 o10; clear a10; replace H := app_hid H
     cases t_25 with
     | false =>
      replace H := ite_f H; replace H := app_hid H; go_wp2_with fail
      go_roundg m0
      case measure => omega
      case rel => exact ⟨k0 + 1, by omega, by go_num, H, p10⟩
     | true =>
      replace H := ite_t H; obtain rfl := ret_hid H; go_wp2_with fail; go_ret; exact ⟨rfl, p10.out⟩
end Go.Proofs.YtihibckijdfidaaGreat.GiRateOn

