/- Texts on which the proofs of several laws stand, one behind the other (11 of 18). No condition of their own. -/
import Derived.Test.YtgbcdmlcmnaimaaChecked
import Derived.Test.YtgbcdmlcmnaimaaX10P1
import Derived.Test.YtgbcdmlcmnaimaaX10P4
import Derived.Test.YtgbcdmlcmnaimaaX10P10
import Derived.Test.YtgbcdmlcmnaimaaX10P9
import Derived.WalkKit
import Derived.WalkSpells
import Derived.WalkLawsBesides
import Derived.BigQuiet
import Derived.OwnWalk
import Derived.Deep.LoopGhost
import Derived.Deep.QuietTactic
import Derived.IntWalk
import Derived.Lib.QuietBelow
import Derived.Test.YtgbcdmlcmnaimaaX10P7
import Derived.Test.YtgbcdmlcmnaimaaX10P6
set_option linter.unusedVariables false
set_option linter.unusedSimpArgs false
namespace Go.Proofs.Ytgbcdmlcmnaimaa.GsBestRoute
open Go.RowKit
open Go.Proofs.Ytgbcdmlcmnaimaa.Rowed Go.Proofs.Ytgbcdmlcmnaimaa.Turn Go.Proofs.Ytgbcdmlcmnaimaa.Aid Go.Proofs.Ytgbcdmlcmnaimaa.GoP Go.Proofs.Ytgbcdmlcmnaimaa.GoM

def l1 (list : (List PMail.Mail)) (to_3 : Int) (t_8a : Int) (k1 : Nat) (s : Int × Int × (List Int)) (nx1 bk1 : Int × Int × (List Int) → Option ((List Int) × Bool)) : Option ((List Int) × Bool) :=
 unp3 s fun from_1l1 minute_2l1 out_10l1 =>
 Option.bind (idx list (k1 : Int)) fun (yt_34 : PMail.Mail) =>
 unMail yt_34 fun (t_34_leave : Int) (t_34_from_ : Int) (t_34_to_ : Int) (t_34_arrive : Int) =>
 letK (t_34_from_ == from_1l1) fun (t_41 : Bool) =>
 joinK (fun (t_47 : Bool) =>
 joinK (fun (t_60 : Bool) =>
 iteK t_60
 (guardK (out_10l1.length ≤ 1099511627776) <|
 letK (out_10l1 ++ [(k1 : Int)]) fun (t_64 : (List Int)) =>
 appK bk1 (t_34_to_, t_34_arrive, t_64))
 (appK nx1 (from_1l1, minute_2l1, out_10l1))) fun jt_60 => iteK t_47 (Option.bind (GsL9Times.P list t_34_to_ t_34_arrive) fun (t_54 : (List Int)) =>
 Option.bind (idx t_54 to_3) fun (yt_56 : Int) =>
 letK (yt_56 == t_8a) fun (t_59 : Bool) =>
 appK jt_60 t_59) (appK jt_60 false)) fun jt_47 => iteK t_41 (letK (decide (minute_2l1 ≤ t_34_leave)) fun (t_46 : Bool) =>
 appK jt_47 t_46) (appK jt_47 false)

def e1 (nx0 : (Int × Int × (List Int)) → Option ((List Int) × Bool)) (s : Int × Int × (List Int)) : Option ((List Int) × Bool) :=
 unp3 s fun from_1l1 minute_2l1 out_10l1 =>
 appK nx0 (from_1l1, minute_2l1, out_10l1)

def l0 (list : (List PMail.Mail)) (to_3 : Int) (t_8a : Int) (s : Int × Int × (List Int)) (nx0 bk0 : Int × Int × (List Int) → Option ((List Int) × Bool)) : Option ((List Int) × Bool) :=
 unp3 s fun from_1l0 minute_2l0 out_10l0 =>
 letK (from_1l0 != to_3) fun (t_21 : Bool) =>
 joinK (fun (t_26 : Bool) =>
 iteK t_26
 (cntK (l1 list to_3 t_8a) (list.length) 0 (from_1l0, minute_2l0, out_10l0) (e1 nx0))
 (appK bk0 (from_1l0, minute_2l0, out_10l0))) fun jt_26 => iteK t_21 (appK jt_26 true) (letK (minute_2l0 != t_8a) fun (t_25 : Bool) =>
 appK jt_26 t_25)

def e0  (s : Int × Int × (List Int)) : Option ((List Int) × Bool) :=
 unp3 s fun from_1l0 minute_2l0 out_10l0 =>
 some (out_10l0, true)

def P (fuel : Nat) (list : (List PMail.Mail)) (from_1 : Int) (minute : Int) (to_3 : Int) : Option ((List Int) × Bool) :=
 bind2 (GsEarliestAt.P list from_1 minute to_3) fun (t_8a : Int) (t_8b : Bool) =>
 letK (!t_8b) fun (t_15 : Bool) =>
 iteK t_15
 (some (([] : List Int), false))
 (loopK (l0 list to_3 t_8a) fuel (from_1, minute, ([] : List Int)) (e0 ))

set_option maxRecDepth 100000 in
set_option maxHeartbeats 2000000 in
theorem C (fuel : Nat) (list : (List PMail.Mail)) (from_1 : Int) (minute : Int) (to_3 : Int) (A0 : Option Addr) (c0 : Nat)  (w : World) (M0 : Hid (Cells w 4 A0 list.length (PMail.flat list))) (N0 : Hid (list.length ≤ 9223372036854775807))  {r0 : (List Int)} {r1 : Bool} (H : Hid (P fuel list from_1 minute to_3 = some (r0, r1))) :
  Calls Try.prog 97 #[.slice A0 list.length c0, .int .i64 from_1, .int .i64 minute, .int .i64 to_3] w (fun e w' => ∃ A_r0 c_r0, e = .returned (.tuple #[.slice A_r0 r0.length c_r0, .bool r1]) ∧ w'.ownsRow w.heap.size 3 1 (.slice A_r0 r0.length c_r0) r0.length (HelpInt.iv r0) ∧ Below w.heap.size w w') := by
 have HB := Lib.hid (Below.refl w.heap.size w); unfold P at H; have N0o := N0.out; obtain ⟨i0_3, hi_3, o13, c14, f13⟩ := Aid.info_parts (P := Try.prog) (T := 3) (z := .int .i64 0) (s := 1) (b := 8) (by kernel_rfl)
 go_enter Try.func97, Try.ntmps97
 obtain ⟨s13, j13⟩ : ∃ x, w.alloc (.cells #[] 3) = x := ⟨_, rfl⟩; have m13 : Below w.heap.size w s13 := (by rw [← j13]; exact (Below.refl _ _).alloc (Nat.le_refl _) _); have Ot_2 : Hid (s13.ownsRow w.heap.size 3 1 (.slice (some ⟨w.heap.size, 0, none⟩) 0 0) 0 []) := Lib.hid (by rw [← j13]; exact own_empty HB.out.size); have i13 := Lib.hid (Below.step HB.out m13); clear m13; replace H := bind2_hid H; obtain ⟨t_8a, t_8b, qt_8, H⟩ := H; go_wp2_with fail; go_at_call 96; refine (GsEarliestAt.C (list) (from_1) (minute) (to_3) A0 c0 _   (Lib.hid (Cells.below M0.out i13.out)) N0 qt_8).mono ?_; rintro d15 wt_8 ⟨rfl, bt_8⟩; have p13 := Lib.hid (Below.step i13.out bt_8); replace Ot_2 := Lib.hid (own_below Ot_2.out bt_8); clear bt_8
 cases t_8b with
 | false =>
  replace H := let_hid H; obtain ⟨t_15, a13, H⟩ := H; obtain rfl : t_15 = true := a13.symm; replace H := ite_t H; cases ret_hid H; go_wp2_with fail; go_ret2; exact ⟨(some ⟨w.heap.size, 0, none⟩), 0, rfl, Ot_2.out, p13.out⟩
 | true =>
  replace H := let_hid H; obtain ⟨t_15, a13, H⟩ := H; obtain rfl : t_15 = false := a13.symm; replace H := ite_f H; go_wp2_with fail; go_loopg [1, 2, 10] (fuel) (fun m_ v1_ v2_ v10_ wr => ∃ (h12 : Int) (x12 : Int) (j11 : (List Int)) (d12 : Option Addr) (y11 : Nat), v1_ = .int .i64 h12 ∧ v2_ = .int .i64 x12 ∧ v10_ = .slice d12 j11.length y11 ∧ Hid (loopK (l0 list to_3 t_8a) m_ (h12, x12, j11) (e0 ) = some (r0, r1)) ∧ Hid (Below w.heap.size w wr) ∧ Hid (wr.ownsRow w.heap.size 3 1 (.slice d12 j11.length y11) j11.length (HelpInt.iv j11)))
  case atStart => exact ⟨_, _, _, _, _, rfl, rfl, rfl, H, p13, Ot_2⟩
  case round =>
   obtain ⟨h12, x12, j11, d12, y11, rfl, rfl, rfl, H, y12, z12⟩ := hrel; rename World => wr0
   cases gk with
   | zero => exact (loop_zero H).elim
   | succ m0 =>
    replace H := loop_succ H; unfold l0 at H; replace H := unp3_hid H; replace H := let_hid H; obtain ⟨t_21, c15, H⟩ := H; replace H := join_hid H
    cases t_21 with
    | false =>
     replace H := ite_f H; replace H := let_hid H; obtain ⟨t_25, e15, H⟩ := H; replace H := app_hid H
     cases t_25 with
     | false =>
      replace H := ite_f H; replace H := app_hid H; unfold e0 at H; replace H := unp3_hid H; cases ret_hid H; go_wp2_with fail; go_ret2; exact ⟨d12, y11, rfl, z12.out, y12.out⟩
     | true =>
      replace H := ite_t H; go_wp2_with fail; go_loopg [13, 1, 2, 10] (list.length) (fun m_ v13_ v1_ v2_ v10_ wr => ∃ (k1 : Nat) (g11 : Int) (b11 : Int) (l10 : (List Int)) (d11 : Option Addr) (c11 : Nat), k1 + m_ = list.length ∧ v13_ = .int .i64 (k1 : Int) ∧ v1_ = .int .i64 g11 ∧ v2_ = .int .i64 b11 ∧ v10_ = .slice d11 l10.length c11 ∧ Hid (cntK (l1 list to_3 t_8a) m_ k1 (g11, b11, l10) (e1 (fun s' => loopK (l0 list to_3 t_8a) m0 s' (e0 ))) = some (r0, r1)) ∧ Hid (Below w.heap.size w wr) ∧ Hid (wr.ownsRow w.heap.size 3 1 (.slice d11 l10.length c11) l10.length (HelpInt.iv l10)))
      case atStart => exact ⟨0, _, _, _, _, _, by omega, rfl, rfl, rfl, rfl, H, y12, z12⟩
      case round =>
       obtain ⟨k1, g11, b11, l10, d11, c11, hkm1, rfl, rfl, rfl, rfl, H, k10, a10⟩ := hrel; rename World => wr1
       cases gk with
       | zero =>
        obtain rfl : k1 = list.length := (by omega); have hc1 : decide (((list.length : Nat) : Int) < ((list.length : Nat) : Int)) = false := (by simp); replace H := cnt_zero H; unfold e1 at H; replace H := unp3_hid H; replace H := app_hid H; go_wp2_with fail
        go_roundg m0
        case measure => omega
        case rel => exact ⟨_, _, _, _, _, rfl, rfl, rfl, H, k10, a10⟩
       | succ m1 =>
        have hlt1 : k1 < list.length := (by omega); have hc1 : decide ((k1 : Int) < ((list.length : Nat) : Int)) = true := (by simp; omega); replace H := cnt_succ H; unfold l1 at H; replace H := unp3_hid H; replace H := idx_hid H; obtain ⟨w12, t12, r12, m12, v12, H⟩ := H; obtain rfl : k1 = w12 := (by omega); clear r12; obtain ⟨o11, v11, f11, i11⟩ := t12; replace H := unMail_hid H; obtain ⟨d13, j12, x14, c13, p11, g10, j10, h10, i10⟩ := OMail.at_ M0.out m12; obtain rfl := Option.some.inj (v12.out.symm.trans p11); subst c13; have v10 := cell_lt g10; replace g10 := cell_below k10.out g10; replace j10 := cell_below k10.out j10; replace h10 := cell_below k10.out h10; replace i10 := cell_below k10.out i10; clear p11; have h14 : (0 : Int) ≤ (k1 : Int) := (by omega); have w14 : (k1 : Int) < ((list.length : Nat) : Int) := (by omega); have t14 : ((k1 : Int)).toNat = k1 := (by omega); obtain ⟨o10, q10⟩ : ∃ x, wr1.alloc (.cells #[.int .i64 o11, .int .i64 v11, .int .i64 f11, .int .i64 i11] 77) = x := ⟨_, rfl⟩; have e10 : Below wr1.heap.size wr1 o10 := (by rw [← q10]; exact (Below.refl _ _).alloc (Nat.le_refl _) _); have p10 := Lib.hid (apart_fresh a10.out); have n10 := Lib.hid (Below.step k10.out e10); have e12 := cell_below e10 g10; have z11 := cell_below e10 j10; have f12 := cell_below e10 h10; have c12 := cell_below e10 i10; replace a10 := Lib.hid (own_below a10.out e10); clear e10; have m10 : o10.cell? ⟨wr1.heap.size, 0, none⟩ = some (.int .i64 o11) := (by rw [← q10]; exact box_new _ _ _ 0 _ rfl); have x10 : o10.cell? ⟨wr1.heap.size, 1, none⟩ = some (.int .i64 v11) := (by rw [← q10]; exact box_new _ _ _ 1 _ rfl); have t10 : o10.cell? ⟨wr1.heap.size, 2, none⟩ = some (.int .i64 f11) := (by rw [← q10]; exact box_new _ _ _ 2 _ rfl); have s10 : o10.cell? ⟨wr1.heap.size, 3, none⟩ = some (.int .i64 i11) := (by rw [← q10]; exact box_new _ _ _ 3 _ rfl); replace H := let_hid H; obtain ⟨t_41, g14, H⟩ := H; replace H := join_hid H
        cases t_41 with
        | false =>
         replace H := ite_f H; replace H := app_hid H; replace H := join_hid H; replace H := ite_f H; replace H := app_hid H; replace H := ite_f H; replace H := app_hid H; go_wp2_with fail; clear g10 j10 h10 i10
         go_roundg m1
         case measure => omega
         case rel => exact ⟨k1 + 1, _, _, _, _, _, by omega, by go_num, rfl, rfl, rfl, H, n10, a10⟩
        | true =>
         replace H := ite_t H; replace H := let_hid H; obtain ⟨t_46, a15, H⟩ := H; replace H := app_hid H; replace H := join_hid H
         cases t_46 with
         | false =>
          replace H := ite_f H; replace H := app_hid H; replace H := ite_f H; replace H := app_hid H; go_wp2_with fail; clear g10 j10 h10 i10
          go_roundg m1
          case measure => omega
          case rel => exact ⟨k1 + 1, _, _, _, _, _, by omega, by go_num, rfl, rfl, rfl, H, n10, a10⟩
         | true =>
          replace H := ite_t H; replace H := bind_hid H; obtain ⟨t_54, i12, H⟩ := H; go_wp2_with fail; clear g10 j10 h10 i10; go_at_call 87; refine (GsL9Times.C (list) (f11) (i11) (some ⟨d13, j12, none⟩) c0 _   (Lib.hid (Cells.below M0.out n10.out)) N0 i12).mono ?_; rintro y14 w10 ⟨o14, e14, rfl, y10, d10⟩; have z10 := Lib.hid (apart_call y10 a10.out); have d14 := Lib.hid (apart_callbox y10 m10); have f10 := Lib.hid (own_lower y10 n10.out.size); clear y10; have n11 := Lib.hid (Below.step n10.out d10); replace e12 := cell_below d10 e12; replace z11 := cell_below d10 z11; replace f12 := cell_below d10 f12; replace c12 := cell_below d10 c12; replace m10 := cell_below d10 m10; replace x10 := cell_below d10 x10; replace t10 := cell_below d10 t10; replace s10 := cell_below d10 s10; replace a10 := Lib.hid (own_below a10.out d10); clear d10; replace H := idx_hid H; obtain ⟨r10, k14, l12, q14, b13, H⟩ := H; subst l12; obtain ⟨m14, q12⟩ := own_some f10.out (by omega); subst q12; obtain ⟨n14, j14, p14, q11, l11, h11⟩ := HelpInt.Ints.at_ (own_cells f10.out) (k := r10) (by omega); obtain rfl := Option.some.inj (b13.out.symm.trans l11); simp only [Option.some.injEq, Addr.mk.injEq] at q11; obtain ⟨rfl, rfl, _⟩ := q11; clear l11; simp only [Nat.zero_add] at h11; have s14 : (0 : Int) ≤ (r10 : Int) := (by omega); have r14 : (r10 : Int) < ((t_54.length : Nat) : Int) := (by omega); have b15 : ((r10 : Int)).toNat = r10 := (by omega); replace H := let_hid H; obtain ⟨t_59, z14, H⟩ := H; replace H := app_hid H
          cases t_59 with
          | false =>
           replace H := ite_f H; replace H := app_hid H; go_wp2_with fail
           go_roundg m1
           case measure => omega
           case rel => exact ⟨k1 + 1, _, _, _, _, _, by omega, by go_num, rfl, rfl, rfl, H, n11, a10⟩
          | true =>
           replace H := ite_t H; obtain ⟨k12, k11⟩ : ∃ x, w10.alloc (.cells #[.int .i64 (k1 : Int)] 3) = x := ⟨_, rfl⟩; have b10 : Below w10.heap.size w10 k12 := (by rw [← k11]; exact (Below.refl _ _).alloc (Nat.le_refl _) _); have s11 := Lib.hid (Below.step n11.out b10); have b14 := cell_below b10 e12; have x13 := cell_below b10 z11; have r13 := cell_below b10 f12; have e13 := cell_below b10 c12; have o12 := cell_below b10 m10; have v13 := cell_below b10 x10; have h13 := cell_below b10 t10; have g13 := cell_below b10 s10; have a14 := cell_below b10 h11; replace a10 := Lib.hid (own_below a10.out b10); replace f10 := Lib.hid (own_below f10.out b10); clear b10; replace H := guard_hid H; obtain ⟨f14, H⟩ := H; replace H := let_hid H; obtain ⟨t_64, r11, H⟩ := H; have g12 := Lib.hid r11; clear r11; have a11 := s11.out.size; go_wp2_with (at_builtin; refine wpList_append_own_at _ rfl _ _ 33 rfl w.heap.size 3 i0_3 (.int .i64 0) 1 8 Try.underlying33 hi_3 o13 c14 f13 rfl (by decide) _ _ _ rfl a10.out ⟨w10.heap.size, 0, none⟩ 1 1 [.int .i64 (k1 : Int)] rfl rfl (news_new k11) (one_cells rfl) (by unfold maxLen; omega) (by omega) a11 ?_; intro vt_64 wt_64 ot_64 gt_64 zt_64 yt_64; clear zt_64; obtain ⟨t11, v14, rfl, m11⟩ := own_push g12.out (HelpInt.iv_snoc _ _) rfl ot_64; have p12 := Lib.hid m11; have e11 := Lib.hid yt_64; have c10 := Lib.hid gt_64; clear ot_64 gt_64 m11 yt_64; refine stop_in ?_); refine stop_out ?_; have s12 := Lib.hid (s11.out.grown c10.out a11 (fun q hq => (a10.out.lt q hq).1)); clear a11; have l14 : Hid (Apart (some ⟨t11, 0, none⟩) _) := Lib.hid (apart_app (Apart.symm p10.out) (fun a_ ha_ => by cases ha_; exact cell_lt o12) e11.out); have i14 : Hid (Apart (some ⟨t11, 0, none⟩) _) := Lib.hid (apart_app (Apart.symm z10.out) (fun a_ ha_ => (own_lt f10.out a_ ha_).2) e11.out); replace b14 := cell_other b14 c10.out (apart_old a10.out v10); replace x13 := cell_other x13 c10.out (apart_old a10.out v10); replace r13 := cell_other r13 c10.out (apart_old a10.out v10); replace e13 := cell_other e13 c10.out (apart_old a10.out v10); replace o12 := cell_other o12 c10.out (Apart.symm p10.out); replace v13 := cell_other v13 c10.out (Apart.symm p10.out); replace h13 := cell_other h13 c10.out (Apart.symm p10.out); replace g13 := cell_other g13 c10.out (Apart.symm p10.out); replace a14 := cell_other a14 c10.out (Apart.symm z10.out); replace f10 := Lib.hid (own_other f10.out c10.out (Apart.symm z10.out)); clear e12 z11 f12 c12 m10 x10 t10 s10 h11; clear a10 e11 c10; replace H := app_hid H; unfold e1 at H; replace H := unp3_hid H; replace H := app_hid H; go_wp2_with fail
           go_roundg m0
           case measure => omega
           case rel => exact ⟨_, _, _, _, _, rfl, rfl, rfl, H, s12, p12⟩
    | true =>
     replace H := ite_t H; replace H := app_hid H; replace H := ite_t H; go_wp2_with fail; go_loopg [13, 1, 2, 10] (list.length) (fun m_ v13_ v1_ v2_ v10_ wr => ∃ (k1 : Nat) (g11 : Int) (b11 : Int) (l10 : (List Int)) (d11 : Option Addr) (c11 : Nat), k1 + m_ = list.length ∧ v13_ = .int .i64 (k1 : Int) ∧ v1_ = .int .i64 g11 ∧ v2_ = .int .i64 b11 ∧ v10_ = .slice d11 l10.length c11 ∧ Hid (cntK (l1 list to_3 t_8a) m_ k1 (g11, b11, l10) (e1 (fun s' => loopK (l0 list to_3 t_8a) m0 s' (e0 ))) = some (r0, r1)) ∧ Hid (Below w.heap.size w wr) ∧ Hid (wr.ownsRow w.heap.size 3 1 (.slice d11 l10.length c11) l10.length (HelpInt.iv l10)))
     case atStart => exact ⟨0, _, _, _, _, _, by omega, rfl, rfl, rfl, rfl, H, y12, z12⟩
     case round =>
      obtain ⟨k1, g11, b11, l10, d11, c11, hkm1, rfl, rfl, rfl, rfl, H, k10, a10⟩ := hrel; rename World => wr1
      cases gk with
      | zero =>
       obtain rfl : k1 = list.length := (by omega); have hc1 : decide (((list.length : Nat) : Int) < ((list.length : Nat) : Int)) = false := (by simp); replace H := cnt_zero H; unfold e1 at H; replace H := unp3_hid H; replace H := app_hid H; go_wp2_with fail
       go_roundg m0
       case measure => omega
       case rel => exact ⟨_, _, _, _, _, rfl, rfl, rfl, H, k10, a10⟩
      | succ m1 =>
       have hlt1 : k1 < list.length := (by omega); have hc1 : decide ((k1 : Int) < ((list.length : Nat) : Int)) = true := (by simp; omega); replace H := cnt_succ H; unfold l1 at H; replace H := unp3_hid H; replace H := idx_hid H; obtain ⟨w12, t12, r12, m12, v12, H⟩ := H; obtain rfl : k1 = w12 := (by omega); clear r12; obtain ⟨o11, v11, f11, i11⟩ := t12; replace H := unMail_hid H; obtain ⟨d13, j12, x14, c13, p11, g10, j10, h10, i10⟩ := OMail.at_ M0.out m12; obtain rfl := Option.some.inj (v12.out.symm.trans p11); subst c13; have v10 := cell_lt g10; replace g10 := cell_below k10.out g10; replace j10 := cell_below k10.out j10; replace h10 := cell_below k10.out h10; replace i10 := cell_below k10.out i10; clear p11; have h14 : (0 : Int) ≤ (k1 : Int) := (by omega); have w14 : (k1 : Int) < ((list.length : Nat) : Int) := (by omega); have t14 : ((k1 : Int)).toNat = k1 := (by omega); obtain ⟨o10, q10⟩ : ∃ x, wr1.alloc (.cells #[.int .i64 o11, .int .i64 v11, .int .i64 f11, .int .i64 i11] 77) = x := ⟨_, rfl⟩; have e10 : Below wr1.heap.size wr1 o10 := (by rw [← q10]; exact (Below.refl _ _).alloc (Nat.le_refl _) _); have p10 := Lib.hid (apart_fresh a10.out); have n10 := Lib.hid (Below.step k10.out e10); have w11 := cell_below e10 g10; have x11 := cell_below e10 j10; have a12 := cell_below e10 h10; have b12 := cell_below e10 i10; replace a10 := Lib.hid (own_below a10.out e10); clear e10; have m10 : o10.cell? ⟨wr1.heap.size, 0, none⟩ = some (.int .i64 o11) := (by rw [← q10]; exact box_new _ _ _ 0 _ rfl); have x10 : o10.cell? ⟨wr1.heap.size, 1, none⟩ = some (.int .i64 v11) := (by rw [← q10]; exact box_new _ _ _ 1 _ rfl); have t10 : o10.cell? ⟨wr1.heap.size, 2, none⟩ = some (.int .i64 f11) := (by rw [← q10]; exact box_new _ _ _ 2 _ rfl); have s10 : o10.cell? ⟨wr1.heap.size, 3, none⟩ = some (.int .i64 i11) := (by rw [← q10]; exact box_new _ _ _ 3 _ rfl); replace H := let_hid H; obtain ⟨t_41, g14, H⟩ := H; replace H := join_hid H
       cases t_41 with
       | false =>
        replace H := ite_f H; replace H := app_hid H; replace H := join_hid H; replace H := ite_f H; replace H := app_hid H; replace H := ite_f H; replace H := app_hid H; go_wp2_with fail; clear g10 j10 h10 i10
        go_roundg m1
        case measure => omega
        case rel => exact ⟨k1 + 1, _, _, _, _, _, by omega, by go_num, rfl, rfl, rfl, H, n10, a10⟩
       | true =>
        replace H := ite_t H; replace H := let_hid H; obtain ⟨t_46, a15, H⟩ := H; replace H := app_hid H; replace H := join_hid H
        cases t_46 with
        | false =>
         replace H := ite_f H; replace H := app_hid H; replace H := ite_f H; replace H := app_hid H; go_wp2_with fail; clear g10 j10 h10 i10
         go_roundg m1
         case measure => omega
         case rel => exact ⟨k1 + 1, _, _, _, _, _, by omega, by go_num, rfl, rfl, rfl, H, n10, a10⟩
        | true =>
         replace H := ite_t H; replace H := bind_hid H; obtain ⟨t_54, i12, H⟩ := H; go_wp2_with fail; clear g10 j10 h10 i10; go_at_call 87; refine (GsL9Times.C (list) (f11) (i11) (some ⟨d13, j12, none⟩) c0 _   (Lib.hid (Cells.below M0.out n10.out)) N0 i12).mono ?_; rintro y14 w10 ⟨o14, e14, rfl, y10, d10⟩; have z10 := Lib.hid (apart_call y10 a10.out); have d14 := Lib.hid (apart_callbox y10 m10); have f10 := Lib.hid (own_lower y10 n10.out.size); clear y10; have n11 := Lib.hid (Below.step n10.out d10); replace w11 := cell_below d10 w11; replace x11 := cell_below d10 x11; replace a12 := cell_below d10 a12; replace b12 := cell_below d10 b12; replace m10 := cell_below d10 m10; replace x10 := cell_below d10 x10; replace t10 := cell_below d10 t10; replace s10 := cell_below d10 s10; replace a10 := Lib.hid (own_below a10.out d10); clear d10; replace H := idx_hid H; obtain ⟨r10, k14, l12, q14, b13, H⟩ := H; subst l12; obtain ⟨m14, q12⟩ := own_some f10.out (by omega); subst q12; obtain ⟨n14, j14, p14, q11, l11, h11⟩ := HelpInt.Ints.at_ (own_cells f10.out) (k := r10) (by omega); obtain rfl := Option.some.inj (b13.out.symm.trans l11); simp only [Option.some.injEq, Addr.mk.injEq] at q11; obtain ⟨rfl, rfl, _⟩ := q11; clear l11; simp only [Nat.zero_add] at h11; have s14 : (0 : Int) ≤ (r10 : Int) := (by omega); have r14 : (r10 : Int) < ((t_54.length : Nat) : Int) := (by omega); have b15 : ((r10 : Int)).toNat = r10 := (by omega); replace H := let_hid H; obtain ⟨t_59, z14, H⟩ := H; replace H := app_hid H
         cases t_59 with
         | false =>
          replace H := ite_f H; replace H := app_hid H; go_wp2_with fail
          go_roundg m1
          case measure => omega
          case rel => exact ⟨k1 + 1, _, _, _, _, _, by omega, by go_num, rfl, rfl, rfl, H, n11, a10⟩
         | true =>
          replace H := ite_t H; obtain ⟨k12, k11⟩ : ∃ x, w10.alloc (.cells #[.int .i64 (k1 : Int)] 3) = x := ⟨_, rfl⟩; have b10 : Below w10.heap.size w10 k12 := (by rw [← k11]; exact (Below.refl _ _).alloc (Nat.le_refl _) _); have s11 := Lib.hid (Below.step n11.out b10); have l13 := cell_below b10 w11; have q13 := cell_below b10 x11; have y13 := cell_below b10 a12; have n13 := cell_below b10 b12; have n12 := cell_below b10 m10; have z13 := cell_below b10 x10; have k13 := cell_below b10 t10; have w13 := cell_below b10 s10; have t13 := cell_below b10 h11; replace a10 := Lib.hid (own_below a10.out b10); replace f10 := Lib.hid (own_below f10.out b10); clear b10; replace H := guard_hid H; obtain ⟨f14, H⟩ := H; replace H := let_hid H; obtain ⟨t_64, r11, H⟩ := H; have g12 := Lib.hid r11; clear r11; have a11 := s11.out.size; go_wp2_with (at_builtin; refine wpList_append_own_at _ rfl _ _ 33 rfl w.heap.size 3 i0_3 (.int .i64 0) 1 8 Try.underlying33 hi_3 o13 c14 f13 rfl (by decide) _ _ _ rfl a10.out ⟨w10.heap.size, 0, none⟩ 1 1 [.int .i64 (k1 : Int)] rfl rfl (news_new k11) (one_cells rfl) (by unfold maxLen; omega) (by omega) a11 ?_; intro vt_64 wt_64 ot_64 gt_64 zt_64 yt_64; clear zt_64; obtain ⟨t11, v14, rfl, m11⟩ := own_push g12.out (HelpInt.iv_snoc _ _) rfl ot_64; have p12 := Lib.hid m11; have e11 := Lib.hid yt_64; have c10 := Lib.hid gt_64; clear ot_64 gt_64 m11 yt_64; refine stop_in ?_); refine stop_out ?_; have s12 := Lib.hid (s11.out.grown c10.out a11 (fun q hq => (a10.out.lt q hq).1)); clear a11; have l14 : Hid (Apart (some ⟨t11, 0, none⟩) _) := Lib.hid (apart_app (Apart.symm p10.out) (fun a_ ha_ => by cases ha_; exact cell_lt n12) e11.out); have i14 : Hid (Apart (some ⟨t11, 0, none⟩) _) := Lib.hid (apart_app (Apart.symm z10.out) (fun a_ ha_ => (own_lt f10.out a_ ha_).2) e11.out); replace l13 := cell_other l13 c10.out (apart_old a10.out v10); replace q13 := cell_other q13 c10.out (apart_old a10.out v10); replace y13 := cell_other y13 c10.out (apart_old a10.out v10); replace n13 := cell_other n13 c10.out (apart_old a10.out v10); replace n12 := cell_other n12 c10.out (Apart.symm p10.out); replace z13 := cell_other z13 c10.out (Apart.symm p10.out); replace k13 := cell_other k13 c10.out (Apart.symm p10.out); replace w13 := cell_other w13 c10.out (Apart.symm p10.out); replace t13 := cell_other t13 c10.out (Apart.symm z10.out); replace f10 := Lib.hid (own_other f10.out c10.out (Apart.symm z10.out)); clear w11 x11 a12 b12 m10 x10 t10 s10 h11; clear a10 e11 c10; replace H := app_hid H; unfold e1 at H; replace H := unp3_hid H; replace H := app_hid H; go_wp2_with fail
          go_roundg m0
          case measure => omega
          case rel => exact ⟨_, _, _, _, _, rfl, rfl, rfl, H, s12, p12⟩
end Go.Proofs.Ytgbcdmlcmnaimaa.GsBestRoute

namespace Go.Proofs.Ytgbcdmlcmnaimaa.GsL10Route
open Go.RowKit
open Go.Proofs.Ytgbcdmlcmnaimaa.Rowed Go.Proofs.Ytgbcdmlcmnaimaa.Turn Go.Proofs.Ytgbcdmlcmnaimaa.Aid Go.Proofs.Ytgbcdmlcmnaimaa.GoP Go.Proofs.Ytgbcdmlcmnaimaa.GoM

def P (fuel : Nat) (mails : (List PMail.Mail)) (x : PCover.Cover) : Option ((List Int) × Bool) :=
 unCover x fun (x_id : Int) (x_day : Int) (x_zone : Int) (x_grams : Int) (x_paid : Int) (x_from_ : Int) (x_to_ : Int) (x_leave : Int) (x_arrive : Int) =>
 bind2 (GsEarliestAt.P mails x_from_ x_leave x_to_) fun (t_10a : Int) (t_10b : Bool) =>
 letK (!t_10b) fun (t_17 : Bool) =>
 joinK (fun (t_23 : Bool) =>
 iteK t_23
 (some (([] : List Int), false))
 (bind2 (GsBestRoute.P fuel mails x_from_ x_leave x_to_) fun (t_34a : (List Int)) (t_34b : Bool) =>
 some (t_34a, t_34b))) fun jt_23 => iteK t_17 (appK jt_23 true) (letK (decide (x_arrive < t_10a)) fun (t_22 : Bool) =>
 appK jt_23 t_22)

set_option maxRecDepth 100000 in
set_option maxHeartbeats 2000000 in
theorem C (fuel : Nat) (mails : (List PMail.Mail)) (x : PCover.Cover) (A0 : Option Addr) (c0 : Nat)  (w : World) (M0 : Hid (Cells w 4 A0 mails.length (PMail.flat mails))) (N0 : Hid (mails.length ≤ 9223372036854775807))  {r0 : (List Int)} {r1 : Bool} (H : Hid (P fuel mails x = some (r0, r1))) :
  Calls Try.prog 50 #[.slice A0 mails.length c0, x.val] w (fun e w' => ∃ A_r0 c_r0, e = .returned (.tuple #[.slice A_r0 r0.length c_r0, .bool r1]) ∧ w'.ownsRow w.heap.size 3 1 (.slice A_r0 r0.length c_r0) r0.length (HelpInt.iv r0) ∧ Below w.heap.size w w') := by
 have HB := Lib.hid (Below.refl w.heap.size w); unfold P at H; obtain ⟨x_id, x_day, x_zone, x_grams, x_paid, x_from_, x_to_, x_leave, x_arrive⟩ := x; replace H := unCover_hid H; unfold PCover.Cover.val; have N0o := N0.out
 go_enter Try.func50, Try.ntmps50
 obtain ⟨e10, d10⟩ : ∃ x, w.alloc (.cells #[.int .i64 x_id, .int .i64 x_day, .int .i64 x_zone, .int .i64 x_grams, .int .i64 x_paid, .int .i64 x_from_, .int .i64 x_to_, .int .i64 x_leave, .int .i64 x_arrive] 27) = x := ⟨_, rfl⟩; have x10 : Below w.heap.size w e10 := (by rw [← d10]; exact (Below.refl _ _).alloc (Nat.le_refl _) _); have y10 := Lib.hid (Below.step HB.out x10); clear x10; have g10 : e10.cell? ⟨w.heap.size, 0, none⟩ = some (.int .i64 x_id) := (by rw [← d10]; exact box_new _ _ _ 0 _ rfl); have n10 : e10.cell? ⟨w.heap.size, 1, none⟩ = some (.int .i64 x_day) := (by rw [← d10]; exact box_new _ _ _ 1 _ rfl); have i10 : e10.cell? ⟨w.heap.size, 2, none⟩ = some (.int .i64 x_zone) := (by rw [← d10]; exact box_new _ _ _ 2 _ rfl); have j10 : e10.cell? ⟨w.heap.size, 3, none⟩ = some (.int .i64 x_grams) := (by rw [← d10]; exact box_new _ _ _ 3 _ rfl); have l10 : e10.cell? ⟨w.heap.size, 4, none⟩ = some (.int .i64 x_paid) := (by rw [← d10]; exact box_new _ _ _ 4 _ rfl); have o10 : e10.cell? ⟨w.heap.size, 5, none⟩ = some (.int .i64 x_from_) := (by rw [← d10]; exact box_new _ _ _ 5 _ rfl); have p10 : e10.cell? ⟨w.heap.size, 6, none⟩ = some (.int .i64 x_to_) := (by rw [← d10]; exact box_new _ _ _ 6 _ rfl); have k10 : e10.cell? ⟨w.heap.size, 7, none⟩ = some (.int .i64 x_leave) := (by rw [← d10]; exact box_new _ _ _ 7 _ rfl); have m10 : e10.cell? ⟨w.heap.size, 8, none⟩ = some (.int .i64 x_arrive) := (by rw [← d10]; exact box_new _ _ _ 8 _ rfl); replace H := bind2_hid H; obtain ⟨e12, a11, d11, H⟩ := H; go_wp2_with fail; go_at_call 96; refine (GsEarliestAt.C (mails) (x_from_) (x_leave) (x_to_) A0 c0 _   (Lib.hid (Cells.below M0.out y10.out)) N0 d11).mono ?_; rintro n11 f10 ⟨rfl, c10⟩; have h10 := Lib.hid (Below.step y10.out c10); replace g10 := cell_below c10 g10; replace n10 := cell_below c10 n10; replace i10 := cell_below c10 i10; replace j10 := cell_below c10 j10; replace l10 := cell_below c10 l10; replace o10 := cell_below c10 o10; replace p10 := cell_below c10 p10; replace k10 := cell_below c10 k10; replace m10 := cell_below c10 m10; clear c10
 cases a11 with
 | false =>
  replace H := let_hid H; obtain ⟨t_17, v10, H⟩ := H; obtain rfl : t_17 = true := v10.symm; replace H := join_hid H; replace H := ite_t H; replace H := app_hid H; replace H := ite_t H; obtain ⟨q10, r10⟩ : ∃ x, f10.alloc (.cells #[] 3) = x := ⟨_, rfl⟩; have a10 : Below f10.heap.size f10 q10 := (by rw [← r10]; exact (Below.refl _ _).alloc (Nat.le_refl _) _); have s10 : Hid (q10.ownsRow w.heap.size 3 1 (.slice (some ⟨f10.heap.size, 0, none⟩) 0 0) 0 []) := Lib.hid (by rw [← r10]; exact own_empty h10.out.size); have b11 := Lib.hid (apart_box g10); have w10 := Lib.hid (Below.step h10.out a10); have i11 := cell_below a10 g10; have x11 := cell_below a10 n10; have l11 := cell_below a10 i10; have h12 := cell_below a10 j10; have j11 := cell_below a10 l10; have a12 := cell_below a10 o10; have f12 := cell_below a10 p10; have g12 := cell_below a10 k10; have t11 := cell_below a10 m10; clear a10; cases ret_hid H; go_wp2_with fail; go_ret2; exact ⟨(some ⟨f10.heap.size, 0, none⟩), 0, rfl, s10.out, w10.out⟩
 | true =>
  replace H := let_hid H; obtain ⟨t_17, v10, H⟩ := H; obtain rfl : t_17 = false := v10.symm; replace H := join_hid H; replace H := ite_f H; replace H := let_hid H; obtain ⟨t_22, r11, H⟩ := H; replace H := app_hid H
  cases t_22 with
  | false =>
   replace H := ite_f H; replace H := bind2_hid H; obtain ⟨q11, b12, g11, H⟩ := H; go_wp2_with fail; go_at_call 97; refine (GsBestRoute.C fuel (mails) (x_from_) (x_leave) (x_to_) A0 c0 _   (Lib.hid (Cells.below M0.out h10.out)) N0 g11).mono ?_; rintro w11 k11 ⟨e11, z10, rfl, t10, b10⟩; have s11 := Lib.hid (apart_callbox t10 g10); have c11 := Lib.hid (own_lower t10 h10.out.size); clear t10; have f11 := Lib.hid (Below.step h10.out b10); replace g10 := cell_below b10 g10; replace n10 := cell_below b10 n10; replace i10 := cell_below b10 i10; replace j10 := cell_below b10 j10; replace l10 := cell_below b10 l10; replace o10 := cell_below b10 o10; replace p10 := cell_below b10 p10; replace k10 := cell_below b10 k10; replace m10 := cell_below b10 m10; clear b10; cases ret_hid H; go_wp2_with fail; go_ret2; exact ⟨e11, z10, rfl, c11.out, f11.out⟩
  | true =>
   replace H := ite_t H; obtain ⟨q10, r10⟩ : ∃ x, f10.alloc (.cells #[] 3) = x := ⟨_, rfl⟩; have a10 : Below f10.heap.size f10 q10 := (by rw [← r10]; exact (Below.refl _ _).alloc (Nat.le_refl _) _); have s10 : Hid (q10.ownsRow w.heap.size 3 1 (.slice (some ⟨f10.heap.size, 0, none⟩) 0 0) 0 []) := Lib.hid (by rw [← r10]; exact own_empty h10.out.size); have b11 := Lib.hid (apart_box g10); have w10 := Lib.hid (Below.step h10.out a10); have v11 := cell_below a10 g10; have m11 := cell_below a10 n10; have y11 := cell_below a10 i10; have p11 := cell_below a10 j10; have c12 := cell_below a10 l10; have d12 := cell_below a10 o10; have o11 := cell_below a10 p10; have z11 := cell_below a10 k10; have h11 := cell_below a10 m10; clear a10; cases ret_hid H; go_wp2_with fail; go_ret2; exact ⟨(some ⟨f10.heap.size, 0, none⟩), 0, rfl, s10.out, w10.out⟩
end Go.Proofs.Ytgbcdmlcmnaimaa.GsL10Route

namespace Go.Proofs.Ytgbcdmlcmnaimaa.GsRouteOn
open Go.RowKit
open Go.Proofs.Ytgbcdmlcmnaimaa.Rowed Go.Proofs.Ytgbcdmlcmnaimaa.Turn Go.Proofs.Ytgbcdmlcmnaimaa.Aid Go.Proofs.Ytgbcdmlcmnaimaa.GoP Go.Proofs.Ytgbcdmlcmnaimaa.GoM

def P (fuel : Nat) (mails : (List PMail.Mail)) (x : PCover.Cover) : Option ((List Int) × Bool) :=
 unCover x fun (x_id : Int) (x_day : Int) (x_zone : Int) (x_grams : Int) (x_paid : Int) (x_from_ : Int) (x_to_ : Int) (x_leave : Int) (x_arrive : Int) =>
 Option.bind (GsL9Good.P mails) fun (t_4 : Bool) =>
 letK (!t_4) fun (t_5 : Bool) =>
 joinK (fun (t_10 : Bool) =>
 iteK t_10
 (some (([] : List Int), false))
 (bind2 (GsL10Route.P fuel mails (PCover.Cover.mk x_id x_day x_zone x_grams x_paid x_from_ x_to_ x_leave x_arrive)) fun (t_16a : (List Int)) (t_16b : Bool) =>
 some (t_16a, t_16b))) fun jt_10 => iteK t_5 (appK jt_10 true) (Option.bind (GsL10One.P (PCover.Cover.mk x_id x_day x_zone x_grams x_paid x_from_ x_to_ x_leave x_arrive)) fun (t_8 : Bool) =>
 letK (!t_8) fun (t_9 : Bool) =>
 appK jt_10 t_9)

set_option maxRecDepth 100000 in
set_option maxHeartbeats 2000000 in
theorem C (fuel : Nat) (mails : (List PMail.Mail)) (x : PCover.Cover) (A0 : Option Addr) (c0 : Nat)  (w : World) (M0 : Hid (Cells w 4 A0 mails.length (PMail.flat mails))) (N0 : Hid (mails.length ≤ 9223372036854775807))  {r0 : (List Int)} {r1 : Bool} (H : Hid (P fuel mails x = some (r0, r1))) :
  Calls Try.prog 12 #[.slice A0 mails.length c0, x.val] w (fun e w' => ∃ A_r0 c_r0, e = .returned (.tuple #[.slice A_r0 r0.length c_r0, .bool r1]) ∧ w'.ownsRow w.heap.size 3 1 (.slice A_r0 r0.length c_r0) r0.length (HelpInt.iv r0) ∧ Below w.heap.size w w') := by
 have HB := Lib.hid (Below.refl w.heap.size w); unfold P at H; obtain ⟨x_id, x_day, x_zone, x_grams, x_paid, x_from_, x_to_, x_leave, x_arrive⟩ := x; replace H := unCover_hid H; unfold PCover.Cover.val; have N0o := N0.out
 go_enter Try.func12, Try.ntmps12
 obtain ⟨e10, d10⟩ : ∃ x, w.alloc (.cells #[.int .i64 x_id, .int .i64 x_day, .int .i64 x_zone, .int .i64 x_grams, .int .i64 x_paid, .int .i64 x_from_, .int .i64 x_to_, .int .i64 x_leave, .int .i64 x_arrive] 27) = x := ⟨_, rfl⟩; have w10 : Below w.heap.size w e10 := (by rw [← d10]; exact (Below.refl _ _).alloc (Nat.le_refl _) _); have v10 := Lib.hid (Below.step HB.out w10); clear w10; have c10 : e10.cell? ⟨w.heap.size, 0, none⟩ = some (.int .i64 x_id) := (by rw [← d10]; exact box_new _ _ _ 0 _ rfl); have j10 : e10.cell? ⟨w.heap.size, 1, none⟩ = some (.int .i64 x_day) := (by rw [← d10]; exact box_new _ _ _ 1 _ rfl); have g10 : e10.cell? ⟨w.heap.size, 2, none⟩ = some (.int .i64 x_zone) := (by rw [← d10]; exact box_new _ _ _ 2 _ rfl); have k10 : e10.cell? ⟨w.heap.size, 3, none⟩ = some (.int .i64 x_grams) := (by rw [← d10]; exact box_new _ _ _ 3 _ rfl); have m10 : e10.cell? ⟨w.heap.size, 4, none⟩ = some (.int .i64 x_paid) := (by rw [← d10]; exact box_new _ _ _ 4 _ rfl); have l10 : e10.cell? ⟨w.heap.size, 5, none⟩ = some (.int .i64 x_from_) := (by rw [← d10]; exact box_new _ _ _ 5 _ rfl); have h10 : e10.cell? ⟨w.heap.size, 6, none⟩ = some (.int .i64 x_to_) := (by rw [← d10]; exact box_new _ _ _ 6 _ rfl); have f10 : e10.cell? ⟨w.heap.size, 7, none⟩ = some (.int .i64 x_leave) := (by rw [← d10]; exact box_new _ _ _ 7 _ rfl); have i10 : e10.cell? ⟨w.heap.size, 8, none⟩ = some (.int .i64 x_arrive) := (by rw [← d10]; exact box_new _ _ _ 8 _ rfl); replace H := bind_hid H; obtain ⟨t_4, qt_4, H⟩ := H; go_wp2_with fail; go_at_call 40; refine (GsL9Good.C (mails) A0 c0 _   (Lib.hid (Cells.below M0.out v10.out)) N0 qt_4).mono ?_; rintro y11 wt_4 ⟨rfl, bt_4⟩; have r10 := Lib.hid (Below.step v10.out bt_4); replace c10 := cell_below bt_4 c10; replace j10 := cell_below bt_4 j10; replace g10 := cell_below bt_4 g10; replace k10 := cell_below bt_4 k10; replace m10 := cell_below bt_4 m10; replace l10 := cell_below bt_4 l10; replace h10 := cell_below bt_4 h10; replace f10 := cell_below bt_4 f10; replace i10 := cell_below bt_4 i10; clear bt_4
 cases t_4 with
 | false =>
  replace H := let_hid H; obtain ⟨t_5, ht_5, H⟩ := H; obtain rfl : t_5 = true := ht_5.symm; replace H := join_hid H; replace H := ite_t H; replace H := app_hid H; replace H := ite_t H; obtain ⟨n10, p10⟩ : ∃ x, wt_4.alloc (.cells #[] 3) = x := ⟨_, rfl⟩; have a10 : Below wt_4.heap.size wt_4 n10 := (by rw [← p10]; exact (Below.refl _ _).alloc (Nat.le_refl _) _); have t10 : Hid (n10.ownsRow w.heap.size 3 1 (.slice (some ⟨wt_4.heap.size, 0, none⟩) 0 0) 0 []) := Lib.hid (by rw [← p10]; exact own_empty r10.out.size); have x10 := Lib.hid (apart_box c10); have q10 := Lib.hid (Below.step r10.out a10); have h11 := cell_below a10 c10; have l11 := cell_below a10 j10; have k11 := cell_below a10 g10; have n11 := cell_below a10 k10; have m11 := cell_below a10 m10; have z11 := cell_below a10 l10; have p11 := cell_below a10 h10; have c12 := cell_below a10 f10; have e11 := cell_below a10 i10; clear a10; cases ret_hid H; go_wp2_with fail; go_ret2; exact ⟨(some ⟨wt_4.heap.size, 0, none⟩), 0, rfl, t10.out, q10.out⟩
 | true =>
  replace H := let_hid H; obtain ⟨t_5, ht_5, H⟩ := H; obtain rfl : t_5 = false := ht_5.symm; replace H := join_hid H; replace H := ite_f H; replace H := bind_hid H; obtain ⟨t_8, qt_8, H⟩ := H; go_wp2_with fail; go_at_call 41; refine (GsL10One.C ((PCover.Cover.mk x_id x_day x_zone x_grams x_paid x_from_ x_to_ x_leave x_arrive))  _    qt_8).mono ?_; rintro t11 wt_8 ⟨rfl, bt_8⟩; have o10 := Lib.hid (Below.step r10.out bt_8); replace c10 := cell_below bt_8 c10; replace j10 := cell_below bt_8 j10; replace g10 := cell_below bt_8 g10; replace k10 := cell_below bt_8 k10; replace m10 := cell_below bt_8 m10; replace l10 := cell_below bt_8 l10; replace h10 := cell_below bt_8 h10; replace f10 := cell_below bt_8 f10; replace i10 := cell_below bt_8 i10; clear bt_8
  cases t_8 with
  | false =>
   replace H := let_hid H; obtain ⟨t_9, ht_9, H⟩ := H; obtain rfl : t_9 = true := ht_9.symm; replace H := app_hid H; replace H := ite_t H; obtain ⟨n10, p10⟩ : ∃ x, wt_8.alloc (.cells #[] 3) = x := ⟨_, rfl⟩; have a10 : Below wt_8.heap.size wt_8 n10 := (by rw [← p10]; exact (Below.refl _ _).alloc (Nat.le_refl _) _); have t10 : Hid (n10.ownsRow w.heap.size 3 1 (.slice (some ⟨wt_8.heap.size, 0, none⟩) 0 0) 0 []) := Lib.hid (by rw [← p10]; exact own_empty o10.out.size); have x10 := Lib.hid (apart_box c10); have q10 := Lib.hid (Below.step o10.out a10); have s11 := cell_below a10 c10; have b12 := cell_below a10 j10; have g11 := cell_below a10 g10; have j11 := cell_below a10 k10; have r11 := cell_below a10 m10; have f11 := cell_below a10 l10; have i11 := cell_below a10 h10; have x11 := cell_below a10 f10; have w11 := cell_below a10 i10; clear a10; cases ret_hid H; go_wp2_with fail; go_ret2; exact ⟨(some ⟨wt_8.heap.size, 0, none⟩), 0, rfl, t10.out, q10.out⟩
  | true =>
   replace H := let_hid H; obtain ⟨t_9, ht_9, H⟩ := H; obtain rfl : t_9 = false := ht_9.symm; replace H := app_hid H; replace H := ite_f H; replace H := bind2_hid H; obtain ⟨q11, d11, z10, H⟩ := H; go_wp2_with fail; go_at_call 50; refine (GsL10Route.C fuel (mails) ((PCover.Cover.mk x_id x_day x_zone x_grams x_paid x_from_ x_to_ x_leave x_arrive)) A0 c0 _   (Lib.hid (Cells.below M0.out o10.out)) N0 z10).mono ?_; rintro v11 a12 ⟨y10, b11, rfl, s10, b10⟩; have o11 := Lib.hid (apart_callbox s10 c10); have a11 := Lib.hid (own_lower s10 o10.out.size); clear s10; have c11 := Lib.hid (Below.step o10.out b10); replace c10 := cell_below b10 c10; replace j10 := cell_below b10 j10; replace g10 := cell_below b10 g10; replace k10 := cell_below b10 k10; replace m10 := cell_below b10 m10; replace l10 := cell_below b10 l10; replace h10 := cell_below b10 h10; replace f10 := cell_below b10 f10; replace i10 := cell_below b10 i10; clear b10; cases ret_hid H; go_wp2_with fail; go_ret2; exact ⟨y10, b11, rfl, a11.out, c11.out⟩
end Go.Proofs.Ytgbcdmlcmnaimaa.GsRouteOn

namespace Go.Proofs.Ytgbcdmlcmnaimaa.GlVInts
open Go.RowKit
open Go.Proofs.Ytgbcdmlcmnaimaa.Rowed Go.Proofs.Ytgbcdmlcmnaimaa.Turn Go.Proofs.Ytgbcdmlcmnaimaa.Aid Go.Proofs.Ytgbcdmlcmnaimaa.GoP Go.Proofs.Ytgbcdmlcmnaimaa.GoM

def l0 (a : (List Int)) (b : (List Int)) (k0 : Nat) (s : Unit) (nx0 bk0 : Unit → Option (Bool)) : Option (Bool) :=
 
 Option.bind (idx a (k0 : Int)) fun (yt_14 : Int) =>
 Option.bind (idx b (k0 : Int)) fun (yt_18 : Int) =>
 letK (yt_14 != yt_18) fun (t_20 : Bool) =>
 iteK t_20
 (some false)
 (appK nx0 ())

def e0  (s : Unit) : Option (Bool) :=
 
 some true

def P (a : (List Int)) (b : (List Int)) : Option (Bool) :=
 letK ((a.length : Int) != (b.length : Int)) fun (t_5 : Bool) =>
 iteK t_5
 (some false)
 (cntK (l0 a b) (a.length) 0 () (e0 ))

set_option maxRecDepth 100000 in
set_option maxHeartbeats 2000000 in
theorem C (a : (List Int)) (b : (List Int)) (A0 : Option Addr) (c0 : Nat) (A1 : Option Addr) (c1 : Nat)  (w : World) (M0 : Hid (Cells w 1 A0 a.length (HelpInt.iv a))) (N0 : Hid (a.length ≤ 9223372036854775807)) (M1 : Hid (Cells w 1 A1 b.length (HelpInt.iv b))) (N1 : Hid (b.length ≤ 9223372036854775807))  {r : Bool} (H : Hid (P a b = some r)) :
  Calls Try.prog 13 #[.slice A0 a.length c0, .slice A1 b.length c1] w (Gives (.bool r) w) := by
 have HB := Lib.hid (Below.refl w.heap.size w); unfold P at H; have N0o := N0.out; have N1o := N1.out
 go_enter Try.func13, Try.ntmps13
 replace H := let_hid H; obtain ⟨t_5, ht_5, H⟩ := H
 cases t_5 with
 | false =>
  have k10 : Hid (a.length = b.length) := Lib.hid (by have := bne_eq_false_iff_eq.1 ht_5; omega); have r10 : (a.length == b.length) = true := beq_iff_eq.2 k10.out; replace H := ite_f H; go_wp2_with fail; go_loopg [5] (a.length) (fun m_ v5_ wr => ∃ (k0 : Nat) , k0 + m_ = a.length ∧ v5_ = .int .i64 (k0 : Int) ∧ Hid (cntK (l0 a b) m_ k0 () (e0 ) = some r) ∧ Hid (Below w.heap.size w wr))
  case atStart => exact ⟨0, by omega, rfl, H, HB⟩
  case round =>
   obtain ⟨k0, hkm0, rfl, H, c10⟩ := hrel; rename World => wr0
   cases gk with
   | zero =>
    obtain rfl : k0 = a.length := (by omega); have hc0 : decide (((a.length : Nat) : Int) < ((a.length : Nat) : Int)) = false := (by simp); replace H := cnt_zero H; unfold e0 at H; obtain rfl := ret_hid H; go_wp2_with fail; go_ret; exact ⟨rfl, c10.out⟩
   | succ m0 =>
    have hlt0 : k0 < a.length := (by omega); have hc0 : decide ((k0 : Int) < ((a.length : Nat) : Int)) = true := (by simp; omega); replace H := cnt_succ H; unfold l0 at H; go_wp2_with fail; replace H := idx_hid H; obtain ⟨o10, f11, p10, i10, q10, H⟩ := H; obtain rfl : k0 = o10 := (by omega); clear p10; obtain ⟨a11, t10, h11, j10, f10, b10⟩ := HelpInt.Ints.at_ M0.out i10; obtain rfl := Option.some.inj (q10.out.symm.trans f10); subst j10; have j11 := cell_lt b10; replace b10 := cell_below c10.out b10; clear f10; have b11 : (0 : Int) ≤ (k0 : Int) := (by omega); have g11 : (k0 : Int) < ((a.length : Nat) : Int) := (by omega); have w10 : ((k0 : Int)).toNat = k0 := (by omega); have g10 := Lib.hid b10; replace b10 := cell_regrown b10; replace H := idx_hid H; obtain ⟨l10, x10, s10, h10, m10, H⟩ := H; obtain rfl : k0 = l10 := (by omega); clear s10; obtain ⟨d11, y10, i11, n10, e10, a10⟩ := HelpInt.Ints.at_ M1.out h10; obtain rfl := Option.some.inj (m10.out.symm.trans e10); subst n10; have v10 := cell_lt a10; replace a10 := cell_below c10.out a10; clear e10; have c11 : (0 : Int) ≤ (k0 : Int) := (by omega); have e11 : (k0 : Int) < ((b.length : Nat) : Int) := (by omega); have z10 : ((k0 : Int)).toNat = k0 := (by omega); have d10 := Lib.hid a10; replace a10 := cell_regrown a10; replace H := let_hid H; obtain ⟨t_20, k11, H⟩ := H; refine wp_region_quiet_below (by kernel_rfl) (by kernel_rfl) ?_
    repeat (go_big_quiet_step (fail))
    refine wpQuiet_nil ?_; intro Y6 hY6; replace hY6 := below_class hY6; replace b10 := g10.out; clear g10; replace a10 := d10.out; clear d10; have HBY6 := Lib.hid (Below.step c10.out hY6); replace b10 := cell_below hY6 b10; replace a10 := cell_below hY6 a10; clear hY6
    cases t_20 with
    | false =>
     replace H := ite_f H; replace H := app_hid H; go_wp2_with fail
     go_roundg m0
     case measure => omega
     case rel => exact ⟨k0 + 1, by omega, by go_num, H, HBY6⟩
    | true =>
     replace H := ite_t H; obtain rfl := ret_hid H; go_wp2_with fail; go_ret; exact ⟨rfl, HBY6.out⟩
 | true =>
  have r10 : ¬ (a.length = b.length) := (by have := bne_iff_ne.1 ht_5; omega); replace H := ite_t H; obtain rfl := ret_hid H; go_wp2_with fail; go_ret; exact ⟨rfl, HB.out⟩
end Go.Proofs.Ytgbcdmlcmnaimaa.GlVInts

namespace Go.Proofs.Ytgbcdmlcmnaimaa.GiEndOfRoute
open Go.RowKit
open Go.Proofs.Ytgbcdmlcmnaimaa.Rowed Go.Proofs.Ytgbcdmlcmnaimaa.Turn Go.Proofs.Ytgbcdmlcmnaimaa.Aid Go.Proofs.Ytgbcdmlcmnaimaa.GoP Go.Proofs.Ytgbcdmlcmnaimaa.GoM

def l0 (list : (List PMail.Mail)) (route : (List Int)) (k0 : Nat) (s : Int × Int) (nx0 bk0 : Int × Int → Option (Int × Int × Bool)) : Option (Int × Int × Bool) :=
 unp2 s fun office_11l0 end_12l0 =>
 Option.bind (idx route (k0 : Int)) fun (yt_19 : Int) =>
 letK (IntKind.i64.wrap ((list.length : Int) - 1)) fun (t_25 : Int) =>
 Option.bind (GiWithin.P yt_19 0 t_25) fun (t_26 : Bool) =>
 letK (!t_26) fun (t_27 : Bool) =>
 joinK (fun (t_37 : Bool) =>
 iteK t_37
 (some (0, 0, false))
 (Option.bind (idx list yt_19) fun (yt_43 : PMail.Mail) =>
 unMail yt_43 fun (t_43_leave : Int) (t_43_from_ : Int) (t_43_to_ : Int) (t_43_arrive : Int) =>
 Option.bind (idx list yt_19) fun (yt_48 : PMail.Mail) =>
 unMail yt_48 fun (t_48_leave : Int) (t_48_from_ : Int) (t_48_to_ : Int) (t_48_arrive : Int) =>
 appK nx0 (t_43_to_, t_48_arrive))) fun jt_37 => iteK t_27 (appK jt_37 true) (Option.bind (idx list yt_19) fun (yt_31 : PMail.Mail) =>
 unMail yt_31 fun (t_31_leave : Int) (t_31_from_ : Int) (t_31_to_ : Int) (t_31_arrive : Int) =>
 Option.bind (GiCanTake.P (PMail.Mail.mk t_31_leave t_31_from_ t_31_to_ t_31_arrive) office_11l0 end_12l0) fun (t_35 : Bool) =>
 letK (!t_35) fun (t_36 : Bool) =>
 appK jt_37 t_36)

def e0  (s : Int × Int) : Option (Int × Int × Bool) :=
 unp2 s fun office_11l0 end_12l0 =>
 some (office_11l0, end_12l0, true)

def P (list : (List PMail.Mail)) (from_1 : Int) (minute : Int) (route : (List Int)) : Option (Int × Int × Bool) :=
 Option.bind (GiCanBegin.P list from_1 minute) fun (t_6 : Bool) =>
 letK (!t_6) fun (t_7 : Bool) =>
 iteK t_7
 (some (0, 0, false))
 (cntK (l0 list route) (route.length) 0 (from_1, minute) (e0 ))

set_option maxRecDepth 100000 in
set_option maxHeartbeats 2000000 in
theorem C (list : (List PMail.Mail)) (from_1 : Int) (minute : Int) (route : (List Int)) (A0 : Option Addr) (c0 : Nat) (A3 : Option Addr) (c3 : Nat)  (w : World) (M0 : Hid (Cells w 4 A0 list.length (PMail.flat list))) (N0 : Hid (list.length ≤ 9223372036854775807)) (M3 : Hid (Cells w 1 A3 route.length (HelpInt.iv route))) (N3 : Hid (route.length ≤ 9223372036854775807))  {r0 : Int} {r1 : Int} {r2 : Bool} (H : Hid (P list from_1 minute route = some (r0, r1, r2))) :
  Calls Try.prog 14 #[.slice A0 list.length c0, .int .i64 from_1, .int .i64 minute, .slice A3 route.length c3] w (Gives (.tuple #[.int .i64 r0, .int .i64 r1, .bool r2]) w) := by
 have HB := Lib.hid (Below.refl w.heap.size w); unfold P at H; have N0o := N0.out; have N3o := N3.out
 go_enter Try.func14, Try.ntmps14
 replace H := bind_hid H; obtain ⟨t_6, qt_6, H⟩ := H; go_wp2_with fail; go_at_call 51; refine (GiCanBegin.C (list) (from_1) (minute) A0 c0 _   (Lib.hid (Cells.below M0.out HB.out)) N0 qt_6).mono ?_; rintro t12 wt_6 ⟨rfl, bt_6⟩; have w10 := Lib.hid (Below.step HB.out bt_6); clear bt_6
 cases t_6 with
 | false =>
  replace H := let_hid H; obtain ⟨t_7, ht_7, H⟩ := H; obtain rfl : t_7 = true := ht_7.symm; replace H := ite_t H; cases ret_hid H; go_wp2_with fail; go_ret3; exact ⟨rfl, w10.out⟩
 | true =>
  replace H := let_hid H; obtain ⟨t_7, ht_7, H⟩ := H; obtain rfl : t_7 = false := ht_7.symm; replace H := ite_f H; go_wp2_with fail; go_loopg [24, 11, 12] (route.length) (fun m_ v24_ v11_ v12_ wr => ∃ (k0 : Nat) (i10 : Int) (j10 : Int), k0 + m_ = route.length ∧ v24_ = .int .i64 (k0 : Int) ∧ v11_ = .int .i64 i10 ∧ v12_ = .int .i64 j10 ∧ Hid (cntK (l0 list route) m_ k0 (i10, j10) (e0 ) = some (r0, r1, r2)) ∧ Hid (Below w.heap.size w wr))
  case atStart => exact ⟨0, _, _, by omega, rfl, rfl, rfl, H, w10⟩
  case round =>
   obtain ⟨k0, i10, j10, hkm0, rfl, rfl, rfl, H, k10⟩ := hrel; rename World => wr0
   cases gk with
   | zero =>
    obtain rfl : k0 = route.length := (by omega); have hc0 : decide (((route.length : Nat) : Int) < ((route.length : Nat) : Int)) = false := (by simp); replace H := cnt_zero H; unfold e0 at H; replace H := unp2_hid H; cases ret_hid H; go_wp2_with fail; go_ret3; exact ⟨rfl, k10.out⟩
   | succ m0 =>
    have hlt0 : k0 < route.length := (by omega); have hc0 : decide ((k0 : Int) < ((route.length : Nat) : Int)) = true := (by simp; omega); replace H := cnt_succ H; unfold l0 at H; replace H := unp2_hid H; replace H := idx_hid H; obtain ⟨h11, s11, i11, f11, j11, H⟩ := H; obtain rfl : k0 = h11 := (by omega); clear i11; obtain ⟨h12, j12, f12, y11, s10, a10⟩ := HelpInt.Ints.at_ M3.out f11; obtain rfl := Option.some.inj (j11.out.symm.trans s10); subst y11; have p12 := cell_lt a10; replace a10 := cell_below k10.out a10; clear s10; have e12 : (0 : Int) ≤ (k0 : Int) := (by omega); have r12 : (k0 : Int) < ((route.length : Nat) : Int) := (by omega); have a12 : ((k0 : Int)).toNat = k0 := (by omega); replace H := let_hid H; obtain ⟨t_25, d11, H⟩ := H
    try have w11 : (list.length : Int) - 1 = t_25 := by rw [← d11]; exact (IntWalk.i64_in _ (by omega)).symm
    try have d12 : IntKind.i64.wrap t_25 = t_25 := by rw [← w11]; exact IntWalk.i64_in _ (by omega)
    replace H := bind_hid H; obtain ⟨t_26, l11, H⟩ := H; go_wp2_with fail; go_at_call 52; refine (GiWithin.C (s11) (0) (t_25)  _    l11).mono ?_; rintro s12 q12 ⟨rfl, n10⟩; have g10 := Lib.hid (Below.step k10.out n10); replace a10 := cell_below n10 a10; clear n10
    cases t_26 with
    | false =>
     replace H := let_hid H; obtain ⟨t_27, l10, H⟩ := H; obtain rfl : t_27 = true := l10.symm; replace H := join_hid H; replace H := ite_t H; replace H := app_hid H; replace H := ite_t H; cases ret_hid H; go_wp2_with fail; go_ret3; exact ⟨rfl, g10.out⟩
    | true =>
     replace H := let_hid H; obtain ⟨t_27, l10, H⟩ := H; obtain rfl : t_27 = false := l10.symm; replace H := join_hid H; replace H := ite_f H; replace H := idx_hid H; obtain ⟨h10, q11, m11, e11, o10, H⟩ := H; subst m11; obtain ⟨c11, o11, k11, n11⟩ := q11; replace H := unMail_hid H; obtain ⟨m12, c12, g12, p11, p10, b10, d10, c10, e10⟩ := OMail.at_ M0.out e11; obtain rfl := Option.some.inj (o10.out.symm.trans p10); subst p11; have n12 := cell_lt b10; replace b10 := cell_below g10.out b10; replace d10 := cell_below g10.out d10; replace c10 := cell_below g10.out c10; replace e10 := cell_below g10.out e10; clear p10; have w12 : (0 : Int) ≤ (h10 : Int) := (by omega); have b12 : (h10 : Int) < ((list.length : Nat) : Int) := (by omega); have i12 : ((h10 : Int)).toNat = h10 := (by omega); replace H := bind_hid H; obtain ⟨t_35, v11, H⟩ := H; go_wp2_with fail; go_at_call 53; refine (GiCanTake.C ((PMail.Mail.mk c11 o11 k11 n11)) (i10) (j10)  _    v11).mono ?_; rintro v12 l12 ⟨rfl, f10⟩; have q10 := Lib.hid (Below.step g10.out f10); replace a10 := cell_below f10 a10; replace b10 := cell_below f10 b10; replace d10 := cell_below f10 d10; replace c10 := cell_below f10 c10; replace e10 := cell_below f10 e10; clear f10
     cases t_35 with
     | false =>
      replace H := let_hid H; obtain ⟨t_36, m10, H⟩ := H; obtain rfl : t_36 = true := m10.symm; replace H := app_hid H; replace H := ite_t H; cases ret_hid H; go_wp2_with fail; go_ret3; exact ⟨rfl, q10.out⟩
     | true =>
      replace H := let_hid H; obtain ⟨t_36, m10, H⟩ := H; obtain rfl : t_36 = false := m10.symm; replace H := app_hid H; replace H := ite_f H; go_wp2_with fail; have t10 := Lib.hid a10; replace a10 := cell_regrown a10; have z10 := Lib.hid b10; replace b10 := cell_regrown b10; have a11 := Lib.hid d10; replace d10 := cell_regrown d10; have x10 := Lib.hid c10; replace c10 := cell_regrown c10; have r10 := Lib.hid e10; replace e10 := cell_regrown e10; replace H := idx_hid H; obtain ⟨z11, o12, g11, b11, y10, H⟩ := H; obtain rfl : h10 = z11 := (by omega); clear g11; obtain rfl := Option.some.inj (o10.out.symm.trans y10.out); clear y10 b11; replace H := unMail_hid H; replace H := idx_hid H; obtain ⟨t11, k12, r11, x11, v10, H⟩ := H; obtain rfl : h10 = t11 := (by omega); clear r11; obtain rfl := Option.some.inj (o10.out.symm.trans v10.out); clear v10 x11; replace H := unMail_hid H; refine wp_region_quiet_below (by kernel_rfl) (by kernel_rfl) ?_
      repeat (go_big_quiet_step (fail))
      refine wpQuiet_nil ?_; intro Y9 hY9; replace hY9 := below_class hY9; replace a10 := t10.out; clear t10; replace b10 := z10.out; clear z10; replace d10 := a11.out; clear a11; replace c10 := x10.out; clear x10; replace e10 := r10.out; clear r10; have HBY9 := Lib.hid (Below.step q10.out hY9); replace a10 := cell_below hY9 a10; replace b10 := cell_below hY9 b10; replace d10 := cell_below hY9 d10; replace c10 := cell_below hY9 c10; replace e10 := cell_below hY9 e10; clear hY9; replace H := app_hid H; go_wp2_with fail
      go_roundg m0
      case measure => omega
      case rel => exact ⟨k0 + 1, _, _, by omega, by go_num, rfl, rfl, H, HBY9⟩
end Go.Proofs.Ytgbcdmlcmnaimaa.GiEndOfRoute

namespace Go.Proofs.Ytgbcdmlcmnaimaa.GsDrawIsCover
open Go.RowKit
open Go.Proofs.Ytgbcdmlcmnaimaa.Rowed Go.Proofs.Ytgbcdmlcmnaimaa.Turn Go.Proofs.Ytgbcdmlcmnaimaa.Aid Go.Proofs.Ytgbcdmlcmnaimaa.GoP Go.Proofs.Ytgbcdmlcmnaimaa.GoM

def P (tapes : List Int → GoC.Tape) (code : (List Int)) : Option (PCover.Cover) :=
 letK (tapes code) fun (t_3 : GoC.Tape) =>
 letK ([1, 50, 999, 0, 1000]) fun (t_7 : (List Int)) =>
 bind2 (GsL1CurAmong.P t_3 t_7) fun (t_8 : Int) (t_8_tp : GoC.Tape) =>
 bind2 (GsL1CurCover.P t_8_tp t_8) fun (t_9 : PCover.Cover) (t_9_tp : GoC.Tape) =>
 unCover t_9 fun (t_9_id : Int) (t_9_day : Int) (t_9_zone : Int) (t_9_grams : Int) (t_9_paid : Int) (t_9_from_ : Int) (t_9_to_ : Int) (t_9_leave : Int) (t_9_arrive : Int) =>
 some (PCover.Cover.mk t_9_id t_9_day t_9_zone t_9_grams t_9_paid t_9_from_ t_9_to_ t_9_leave t_9_arrive)

set_option maxRecDepth 100000 in
set_option maxHeartbeats 2000000 in
theorem C (tapes : List Int → GoC.Tape) (code : (List Int)) (A0 : Option Addr) (c0 : Nat)  (w : World) (HE : Hid (GoC.Tells tapes)) (M0 : Hid (Cells w 1 A0 code.length (GoC.u8s code))) (N0 : Hid (code.length ≤ 9223372036854775807)) (V0 : Hid (∀ z ∈ code, 0 ≤ z ∧ z ≤ 255))  {r : PCover.Cover} (H : Hid (P tapes code = some r)) :
  Calls Try.prog 17 #[.slice A0 code.length c0] w (Gives ((PCover.Cover.val r)) w) := by
 have HB := Lib.hid (Below.refl w.heap.size w); unfold P at H; have N0o := N0.out
 go_enter Try.func17, Try.ntmps17
 obtain ⟨b10, e10⟩ : ∃ x, w.alloc (.cells #[.int .i64 0, .int .i64 0, .int .i64 0, .int .i64 0, .int .i64 0, .int .i64 0, .int .i64 0, .int .i64 0, .int .i64 0] 27) = x := ⟨_, rfl⟩; have q11 : Below w.heap.size w b10 := (by rw [← e10]; exact (Below.refl _ _).alloc (Nat.le_refl _) _); have d11 := Lib.hid (Below.step HB.out q11); clear q11; have h11 : b10.cell? ⟨w.heap.size, 0, none⟩ = some (.int .i64 0) := (by rw [← e10]; exact box_new _ _ _ 0 _ rfl); have d12 : b10.cell? ⟨w.heap.size, 1, none⟩ = some (.int .i64 0) := (by rw [← e10]; exact box_new _ _ _ 1 _ rfl); have a12 : b10.cell? ⟨w.heap.size, 2, none⟩ = some (.int .i64 0) := (by rw [← e10]; exact box_new _ _ _ 2 _ rfl); have s11 : b10.cell? ⟨w.heap.size, 3, none⟩ = some (.int .i64 0) := (by rw [← e10]; exact box_new _ _ _ 3 _ rfl); have e12 : b10.cell? ⟨w.heap.size, 4, none⟩ = some (.int .i64 0) := (by rw [← e10]; exact box_new _ _ _ 4 _ rfl); have o11 : b10.cell? ⟨w.heap.size, 5, none⟩ = some (.int .i64 0) := (by rw [← e10]; exact box_new _ _ _ 5 _ rfl); have l11 : b10.cell? ⟨w.heap.size, 6, none⟩ = some (.int .i64 0) := (by rw [← e10]; exact box_new _ _ _ 6 _ rfl); have t11 : b10.cell? ⟨w.heap.size, 7, none⟩ = some (.int .i64 0) := (by rw [← e10]; exact box_new _ _ _ 7 _ rfl); have n11 : b10.cell? ⟨w.heap.size, 8, none⟩ = some (.int .i64 0) := (by rw [← e10]; exact box_new _ _ _ 8 _ rfl); have Ot_0 : Hid (b10.ownsRow w.heap.size 27 9 (.slice (some ⟨w.heap.size, 0, none⟩) 1 1) 1 [.int .i64 0, .int .i64 0, .int .i64 0, .int .i64 0, .int .i64 0, .int .i64 0, .int .i64 0, .int .i64 0, .int .i64 0]) := Lib.hid (by rw [← e10]; exact own_laid (n := 1) HB.out.size rfl rfl (by unfold maxLen; omega)); replace H := let_hid H; obtain ⟨t_3, ht_3, H⟩ := H; obtain ⟨h10, c12⟩ : ∃ x, b10.alloc (.cells #[.slice A0 code.length c0, .int .i64 0, .int .u64 0] 60) = x := ⟨_, rfl⟩; have d10 : Below b10.heap.size b10 h10 := (by rw [← c12]; exact (Below.refl _ _).alloc (Nat.le_refl _) _); have Kt_3 : Hid (GoC.CurIs h10 w.heap.size b10.heap.size A0 c0 t_3) := Lib.hid (by rw [← c12, ← ht_3]; exact GoC.cur_new d11.out.size (Cells.below M0.out d11.out) (fun a_ ha_ h0_ => by subst ha_; exact GoC.cells_lt M0.out (by unfold GoC.u8s; rw [List.length_map]; exact h0_)) (HE.out.2.2 code V0.out N0.out)); have e13 := Lib.hid ht_3; clear ht_3; have a10 := Lib.hid (apart_box h11); have m11 := Lib.hid (Below.step d11.out d10); have e11 := cell_below d10 h11; have w11 := cell_below d10 d12; have r11 := cell_below d10 a12; have f12 := cell_below d10 s11; have y11 := cell_below d10 e12; have z11 := cell_below d10 o11; have b12 := cell_below d10 l11; have h12 := cell_below d10 t11; have v11 := cell_below d10 n11; replace Ot_0 := Lib.hid (own_below Ot_0.out d10); clear d10; replace H := let_hid H; obtain ⟨t_7, ht_7, H⟩ := H; obtain ⟨f11, x11⟩ : ∃ x, h10.alloc (.cells #[.int .i64 1, .int .i64 50, .int .i64 999, .int .i64 0, .int .i64 1000] 3) = x := ⟨_, rfl⟩; have c10 : Below h10.heap.size h10 f11 := (by rw [← x11]; exact (Below.refl _ _).alloc (Nat.le_refl _) _); have k11 := m11.out.size; have nt_7 : t_7.length = 5 := (by rw [← ht_7]; rfl)
 have Ot_7 : Hid (f11.ownsRow w.heap.size 3 1 (.slice (some ⟨h10.heap.size, 0, none⟩) 5 5) 5 (HelpInt.iv t_7)) := by
  rw [← x11, ← ht_7]; have e_ : ([.int .i64 1, .int .i64 50, .int .i64 999, .int .i64 0, .int .i64 1000] : List Value) = (HelpInt.iv ([1, 50, 999, 0, 1000] : List Int)) := rfl; exact Lib.hid (own_laid (n := 5) k11 e_ rfl (by unfold maxLen; omega))
 clear k11; have f13 := Lib.hid ht_7; clear ht_7; replace nt_7 := Lib.hid nt_7; have c11 := Lib.hid (GoC.apart_cur Kt_3.out); have i12 := Lib.hid (apart_box e11); have j11 := Lib.hid (Below.step m11.out c10); have a11 := cell_below c10 e11; have z10 := cell_below c10 w11; have s10 := cell_below c10 r11; have y10 := cell_below c10 f12; have w10 := cell_below c10 y11; have r10 := cell_below c10 z11; have t10 := cell_below c10 b12; have b11 := cell_below c10 h12; have v10 := cell_below c10 v11; replace Kt_3 := Lib.hid (GoC.cur_below Kt_3.out c10); replace Ot_0 := Lib.hid (own_below Ot_0.out c10); clear c10; replace H := bind2_hid H; obtain ⟨t_8, t12, qt_8, H⟩ := H; go_wp2_with fail; clear h11 d12 a12 s11 e12 o11 l11 t11 n11 e11 w11 r11 f12 y11 z11 b12 h12 v11; have hc_ := nt_7.out; have hv_ : (Value.slice (some ⟨h10.heap.size, 0, none⟩) 5 5 : Value) = Value.slice (some ⟨h10.heap.size, 0, none⟩) t_7.length 5 := (by rw [hc_])
 try rw [hv_]
 replace Ot_7 := Lib.hid (own_len hc_ Ot_7.out); clear hc_ hv_; go_wp2_with fail; go_at_call 56; refine (GsL1CurAmong.C (t_3) (t_7) (some ⟨h10.heap.size, 0, none⟩) 5 (b10.heap.size) (A0) (c0) (w.heap.size) _   (Lib.hid (own_cells Ot_7.out)) (Lib.hid (own_max Ot_7.out)) Kt_3 (Lib.hid (fun _ => c11.out)) qt_8).mono ?_; rintro w12 wt_8 ⟨rfl, kt_8, gt_8⟩; have Kt_8 := Lib.hid kt_8; have Gt_8 : Hid (f11.grownBy wt_8 (Value.slice (some ⟨b10.heap.size, 0, none⟩) 1 1).ownBlock) := Lib.hid gt_8; clear kt_8 gt_8; have p11 := Lib.hid (GoC.below_cur j11.out Gt_8.out j11.out.size (GoC.cur_lt Kt_3.out).1); replace a11 := cell_other a11 Gt_8.out a10.out; replace z10 := cell_other z10 Gt_8.out a10.out; replace s10 := cell_other s10 Gt_8.out a10.out; replace y10 := cell_other y10 Gt_8.out a10.out; replace w10 := cell_other w10 Gt_8.out a10.out; replace r10 := cell_other r10 Gt_8.out a10.out; replace t10 := cell_other t10 Gt_8.out a10.out; replace b11 := cell_other b11 Gt_8.out a10.out; replace v10 := cell_other v10 Gt_8.out a10.out; replace Ot_0 := Lib.hid (own_other Ot_0.out Gt_8.out a10.out); replace Ot_7 := Lib.hid (own_other Ot_7.out Gt_8.out (Apart.symm c11.out)); clear Kt_3 Gt_8; replace H := bind2_hid H; obtain ⟨t_9, c13, qt_9, H⟩ := H; obtain ⟨k10, o10, p10, l10, m10, q10, i10, j10, n10⟩ := t_9; replace H := unCover_hid H; go_wp2_with fail; go_at_call 36; refine (GsL1CurCover.C (t12) (t_8) (b10.heap.size) (A0) (c0) (w.heap.size) _   Kt_8 qt_9).mono ?_; rintro h13 wt_9 ⟨rfl, kt_9, gt_9⟩; unfold PCover.Cover.val; have Kt_9 := Lib.hid kt_9; have Gt_9 : Hid (wt_8.grownBy wt_9 (Value.slice (some ⟨b10.heap.size, 0, none⟩) 1 1).ownBlock) := Lib.hid gt_9; clear kt_9 gt_9; have g12 := Lib.hid (GoC.below_cur p11.out Gt_9.out p11.out.size (GoC.cur_lt Kt_8.out).1); replace a11 := cell_other a11 Gt_9.out a10.out; replace z10 := cell_other z10 Gt_9.out a10.out; replace s10 := cell_other s10 Gt_9.out a10.out; replace y10 := cell_other y10 Gt_9.out a10.out; replace w10 := cell_other w10 Gt_9.out a10.out; replace r10 := cell_other r10 Gt_9.out a10.out; replace t10 := cell_other t10 Gt_9.out a10.out; replace b11 := cell_other b11 Gt_9.out a10.out; replace v10 := cell_other v10 Gt_9.out a10.out; replace Ot_0 := Lib.hid (own_other Ot_0.out Gt_9.out a10.out); replace Ot_7 := Lib.hid (own_other Ot_7.out Gt_9.out (Apart.symm c11.out)); clear Kt_8 Gt_9; obtain ⟨f10, i11⟩ : ∃ x, (((((((((wt_9).setCell ⟨w.heap.size, 0, none⟩ (.int .i64 k10)).setCell ⟨w.heap.size, 1, none⟩ (.int .i64 o10)).setCell ⟨w.heap.size, 2, none⟩ (.int .i64 p10)).setCell ⟨w.heap.size, 3, none⟩ (.int .i64 l10)).setCell ⟨w.heap.size, 4, none⟩ (.int .i64 m10)).setCell ⟨w.heap.size, 5, none⟩ (.int .i64 q10)).setCell ⟨w.heap.size, 6, none⟩ (.int .i64 i10)).setCell ⟨w.heap.size, 7, none⟩ (.int .i64 j10)).setCell ⟨w.heap.size, 8, none⟩ (.int .i64 n10) = x := ⟨_, rfl⟩; have z12 := Ot_0.out.frozenAt 0; have v12 := Ot_0.out.frozenAt 1; have b13 := Ot_0.out.frozenAt 2; have i13 := Ot_0.out.frozenAt 3; have x12 := Ot_0.out.frozenAt 4; have g13 := Ot_0.out.frozenAt 5; have y12 := Ot_0.out.frozenAt 6; have d13 := Ot_0.out.frozenAt 7; have a13 := Ot_0.out.frozenAt 8; have g11 := Lib.hid (own_stores [(0, .int .i64 k10), (1, .int .i64 o10), (2, .int .i64 p10), (3, .int .i64 l10), (4, .int .i64 m10), (5, .int .i64 q10), (6, .int .i64 i10), (7, .int .i64 j10), (8, .int .i64 n10)] Ot_0.out); have g10 : Hid (f10.ownsRow w.heap.size 27 9 (.slice (some ⟨w.heap.size, 0, none⟩) 1 1) 1 [.int .i64 k10, .int .i64 o10, .int .i64 p10, .int .i64 l10, .int .i64 m10, .int .i64 q10, .int .i64 i10, .int .i64 j10, .int .i64 n10]) := Lib.hid (by rw [← i11]; exact g11.out.1); have x10 : Hid (wt_9.grownBy f10 (Value.slice (some ⟨w.heap.size, 0, none⟩) 1 1).ownBlock) := Lib.hid (by rw [← i11]; exact g11.out.2); have p12 := Lib.hid (g12.out.grown x10.out g12.out.size (fun q hq => (Ot_0.out.lt q hq).1)); clear g11; replace Ot_7 := Lib.hid (own_other Ot_7.out x10.out (Apart.symm i12.out))
 replace Kt_9 := Lib.hid (GoC.cur_other Kt_9.out x10.out (Apart.symm a10.out) (GoC.own_ge Ot_0.out)); clear Ot_0 x10; have n12 : f10.cell? ⟨w.heap.size, 0, none⟩ = some (.int .i64 k10) := g10.out.cells rfl 0 _ rfl; have o12 : f10.cell? ⟨w.heap.size, 1, none⟩ = some (.int .i64 o10) := g10.out.cells rfl 1 _ rfl; have s12 : f10.cell? ⟨w.heap.size, 2, none⟩ = some (.int .i64 p10) := g10.out.cells rfl 2 _ rfl; have m12 : f10.cell? ⟨w.heap.size, 3, none⟩ = some (.int .i64 l10) := g10.out.cells rfl 3 _ rfl; have q12 : f10.cell? ⟨w.heap.size, 4, none⟩ = some (.int .i64 m10) := g10.out.cells rfl 4 _ rfl; have r12 : f10.cell? ⟨w.heap.size, 5, none⟩ = some (.int .i64 q10) := g10.out.cells rfl 5 _ rfl; have k12 : f10.cell? ⟨w.heap.size, 6, none⟩ = some (.int .i64 i10) := g10.out.cells rfl 6 _ rfl; have j12 : f10.cell? ⟨w.heap.size, 7, none⟩ = some (.int .i64 j10) := g10.out.cells rfl 7 _ rfl; have l12 : f10.cell? ⟨w.heap.size, 8, none⟩ = some (.int .i64 n10) := g10.out.cells rfl 8 _ rfl; cases ret_hid H; go_wp2_with fail
 (try simp only [Exit.inBlock, Exit.then])
 refine bodyPost_ret (v := .agg #[.int .i64 k10, .int .i64 o10, .int .i64 p10, .int .i64 l10, .int .i64 m10, .int .i64 q10, .int .i64 i10, .int .i64 j10, .int .i64 n10]) ?hr_ ?hd_ ?_
 case hd_ => rfl
 case hr_ => simp [results, Try.results17, n12, o12, s12, m12, q12, r12, k12, j12, l12, go_sem]
 exact ⟨rfl, p12.out⟩
end Go.Proofs.Ytgbcdmlcmnaimaa.GsDrawIsCover

namespace Go.Proofs.Ytgbcdmlcmnaimaa.GsDrawFaultText
open Go.RowKit
open Go.Proofs.Ytgbcdmlcmnaimaa.Rowed Go.Proofs.Ytgbcdmlcmnaimaa.Turn Go.Proofs.Ytgbcdmlcmnaimaa.Aid Go.Proofs.Ytgbcdmlcmnaimaa.GoP Go.Proofs.Ytgbcdmlcmnaimaa.GoM

def P (tapes : List Int → GoC.Tape) (code : (List Int)) : Option (Int) :=
 letK (tapes code) fun (t_3 : GoC.Tape) =>
 bind2 (GsL1CurPick.P t_3 7) fun (t_6 : Int) (t_6_tp : GoC.Tape) =>
 bind2 (GsL1CurPick.P t_6_tp 9) fun (t_8 : Int) (t_8_tp : GoC.Tape) =>
 letK (IntKind.i64.wrap (Int.tdiv t_8 8)) fun (t_9 : Int) =>
 letK (IntKind.i64.wrap (t_6 - t_9)) fun (t_10 : Int) =>
 some t_10

set_option maxRecDepth 100000 in
set_option maxHeartbeats 2000000 in
theorem C (tapes : List Int → GoC.Tape) (code : (List Int)) (A0 : Option Addr) (c0 : Nat)  (w : World) (HE : Hid (GoC.Tells tapes)) (M0 : Hid (Cells w 1 A0 code.length (GoC.u8s code))) (N0 : Hid (code.length ≤ 9223372036854775807)) (V0 : Hid (∀ z ∈ code, 0 ≤ z ∧ z ≤ 255))  {r : Int} (H : Hid (P tapes code = some r)) :
  Calls Try.prog 20 #[.slice A0 code.length c0] w (Gives (.int .i64 r) w) := by
 have HB := Lib.hid (Below.refl w.heap.size w); unfold P at H; have N0o := N0.out
 go_enter Try.func20, Try.ntmps20
 replace H := let_hid H; obtain ⟨t_3, ht_3, H⟩ := H; obtain ⟨a10, e10⟩ : ∃ x, w.alloc (.cells #[.slice A0 code.length c0, .int .i64 0, .int .u64 0] 60) = x := ⟨_, rfl⟩; have d10 : Below w.heap.size w a10 := (by rw [← e10]; exact (Below.refl _ _).alloc (Nat.le_refl _) _); have Kt_3 : Hid (GoC.CurIs a10 w.heap.size w.heap.size A0 c0 t_3) := Lib.hid (by rw [← e10, ← ht_3]; exact GoC.cur_new HB.out.size (Cells.below M0.out HB.out) (fun a_ ha_ h0_ => by subst ha_; exact GoC.cells_lt M0.out (by unfold GoC.u8s; rw [List.length_map]; exact h0_)) (HE.out.2.2 code V0.out N0.out)); have i10 := Lib.hid ht_3; clear ht_3; have c10 := Lib.hid (Below.step HB.out d10); clear d10; replace H := bind2_hid H; obtain ⟨t_6, f10, qt_6, H⟩ := H; go_wp2_with fail; go_at_call 63; refine (GsL1CurPick.C (t_3) (7) (w.heap.size) (A0) (c0) (w.heap.size) _   Kt_3 qt_6).mono ?_; rintro k10 wt_6 ⟨rfl, kt_6, gt_6⟩; have Kt_6 := Lib.hid kt_6; have Gt_6 : Hid (a10.grownBy wt_6 (Value.slice (some ⟨w.heap.size, 0, none⟩) 1 1).ownBlock) := Lib.hid gt_6; clear kt_6 gt_6; have b10 := Lib.hid (GoC.below_cur c10.out Gt_6.out c10.out.size (GoC.cur_lt Kt_3.out).1); clear Kt_3 Gt_6; replace H := bind2_hid H; obtain ⟨t_8, l10, qt_8, H⟩ := H; go_wp2_with fail; go_at_call 63; refine (GsL1CurPick.C (f10) (9) (w.heap.size) (A0) (c0) (w.heap.size) _   Kt_6 qt_8).mono ?_; rintro h10 wt_8 ⟨rfl, kt_8, gt_8⟩; have Kt_8 := Lib.hid kt_8; have Gt_8 : Hid (wt_6.grownBy wt_8 (Value.slice (some ⟨w.heap.size, 0, none⟩) 1 1).ownBlock) := Lib.hid gt_8; clear kt_8 gt_8; have g10 := Lib.hid (GoC.below_cur b10.out Gt_8.out b10.out.size (GoC.cur_lt Kt_6.out).1); clear Kt_6 Gt_8; replace H := let_hid H; obtain ⟨t_9, ht_9, H⟩ := H; replace H := let_hid H; obtain ⟨t_10, j10, H⟩ := H; obtain rfl := ret_hid H; go_wp2_with fail; go_ret; exact ⟨rfl, g10.out⟩
end Go.Proofs.Ytgbcdmlcmnaimaa.GsDrawFaultText

namespace Go.Proofs.Ytgbcdmlcmnaimaa.PlainStamp

/-- a number lies in a..b -/
def inB (x a b : Int) : Bool := decide (a ≤ x ∧ x ≤ b)
theorem inB_of {x a b : Int} (h : inB x a b = true) : a ≤ x ∧ x ≤ b := by unfold inB at h; exact of_decide_eq_true h
structure St where
  id : Int
  face : Int
  color : Int
  year : Int
deriving DecidableEq

def St.cells (s : St) : List Value := [.int .i64 s.id, .int .i64 s.face, .int .i64 s.color, .int .i64 s.year]
def St.val (s : St) : Value := .agg #[.int .i64 s.id, .int .i64 s.face, .int .i64 s.color, .int .i64 s.year]
/-- each field fits an int -/
def St.fits (s : St) : Prop := (Lit.int .i64 s.id).wf = true ∧ (Lit.int .i64 s.face).wf = true ∧ (Lit.int .i64 s.color).wf = true ∧ (Lit.int .i64 s.year).wf = true

def okSt (s : St) : Bool := inB s.id 1 999 && inB s.face 0 9999 && inB s.color 0 99 && inB s.year 1840 2100
/-- the stamp at k is valid, and its id is above the one ahead of it -/
def okAt (l : List St) (k : Nat) : Bool :=
  match l[k]? with
  | none => true
  | some s => okSt s && (decide (k = 0) || (match l[k-1]? with | none => true | some r => decide (r.id < s.id)))
def okUp (l : List St) (k : Nat) : Bool := (List.range k).all (okAt l)
/-- a list of at most twelve valid stamps with rising ids -/
def okSts (l : List St) : Bool := decide (l.length ≤ 12) && okUp l l.length
/-- the cells of a list of stamps, one after the other -/
def flat (l : List St) : List Value := l.flatMap St.cells
theorem flat_nil : flat [] = [] := rfl
theorem flat_cons (s : St) (l : List St) : flat (s :: l) = s.cells ++ flat l := by simp [flat]
theorem flat_len (l : List St) : (flat l).length = l.length * 4 := by
  induction l with
  | nil => rfl
  | cons s l ih => rw [flat_cons, List.length_append, ih]; simp [St.cells]; omega
theorem flat_at : ∀ (l : List St) (k : Nat) (s : St), l[k]? = some s → ∀ j, j < 4 → (flat l)[k * 4 + j]? = s.cells[j]?
  | [], k, s, h, _, _ => by simp at h
  | r :: l, 0, s, h, j, hj => by
    obtain rfl : r = s := by simpa using h
    rw [flat_cons, List.getElem?_append_left (by simp [St.cells]; omega)]; simp
  | r :: l, k + 1, s, h, j, hj => by
    rw [flat_cons, List.getElem?_append_right (by simp [St.cells]; omega), show (k + 1) * 4 + j - r.cells.length = k * 4 + j by simp [St.cells]; omega]
    exact flat_at l k s (by simpa using h) j hj
end Go.Proofs.Ytgbcdmlcmnaimaa.PlainStamp

namespace Go.Proofs.Ytgbcdmlcmnaimaa.QBase
open Go.RowKit
open Go.Proofs.Ytgbcdmlcmnaimaa.GoP Go.Proofs.Ytgbcdmlcmnaimaa.PlainStamp

theorem iteK_if {ρ : Type} (c : Bool) (a b : Option ρ) : iteK c a b = if c = true then a else b := by cases c <;> rfl
theorem bind2_some {α β ρ : Type} (a : α) (b : β) (f : α → β → Option ρ) : bind2 (some (a, b)) f = f a b := rfl
theorem unp2_mk {α β ρ : Type} (a : α) (b : β) (f : α → β → Option ρ) : unp2 (a, b) f = f a b := rfl
theorem unp3_mk {α β γ ρ : Type} (a : α) (b : β) (c : γ) (f : α → β → γ → Option ρ) : unp3 (a, b, c) f = f a b c := rfl
theorem guardK_pos {ρ : Type} {p : Prop} [Decidable p] {a : Option ρ} (h : p) : guardK p a = a := if_pos h
theorem within_eq (n a b : Int) : GiWithin.P n a b = some (inB n a b) := by
  simp only [GiWithin.P, letK, joinK, appK, iteK_if, inB]
  by_cases h1 : a ≤ n <;> by_cases h2 : n ≤ b <;> simp [h1, h2]
theorem l1In_eq (n a b : Int) : GsL1In.P n a b = some (inB n a b) := by
  simp only [GsL1In.P, letK, joinK, appK, iteK_if, inB]
  by_cases h1 : a ≤ n <;> by_cases h2 : n ≤ b <;> simp [h1, h2]
end Go.Proofs.Ytgbcdmlcmnaimaa.QBase

namespace Go.Proofs.Ytgbcdmlcmnaimaa.QLoop
open Go.RowKit
open Go.Proofs.Ytgbcdmlcmnaimaa.GoP Go.Proofs.Ytgbcdmlcmnaimaa.QBase

theorem cnt_ex {σ ρ : Type} {f : Nat → σ → (σ → Option ρ) → (σ → Option ρ) → Option ρ} {fin : σ → Option ρ} {Q : ρ → Prop} {n : Nat} (I : Nat → σ → Prop)
    (step : ∀ k s nx, k < n → I k s → (∀ s', I (k + 1) s' → ∃ r, nx s' = some r ∧ Q r) → ∃ r, f k s nx fin = some r ∧ Q r) (done : ∀ s, I n s → ∃ r, fin s = some r ∧ Q r) :
    ∀ m k s, k + m = n → I k s → ∃ r, cntK f m k s fin = some r ∧ Q r := by
  intro m
  induction m with
  | zero => intro k s hk hI; obtain rfl : k = n := by omega
            exact done s hI
  | succ m ih => intro k s hk hI; exact step k s _ (by omega) hI (fun s' h' => ih (k + 1) s' (by omega) h')
theorem cnt_is {σ ρ : Type} {f : Nat → σ → (σ → Option ρ) → (σ → Option ρ) → Option ρ} {fin : σ → Option ρ} {n : Nat} (r : ρ) (I : Nat → σ → Prop)
    (step : ∀ k s nx, k < n → I k s → (∀ s', I (k + 1) s' → nx s' = some r) → f k s nx fin = some r) (done : ∀ s, I n s → fin s = some r) (s : σ) (h0 : I 0 s) : cntK f n 0 s fin = some r := by
  obtain ⟨r', h, rfl⟩ := cnt_ex (Q := fun x => x = r) I (fun k s nx hk hI hn => ⟨r, step k s nx hk hI (fun s' h' => by obtain ⟨_, h, rfl⟩ := hn s' h'; exact h), rfl⟩) (fun s h => ⟨r, done s h, rfl⟩) n 0 s (by omega) h0
  exact h
theorem at_lt {α : Type} {l : List α} {k : Nat} (h : k < l.length) : ∃ x, l[k]? = some x ∧ idx l (k : Int) = some x := ⟨l[k], List.getElem?_eq_getElem h, by rw [idx_nat, List.getElem?_eq_getElem h]⟩
theorem idx_pred {α : Type} {l : List α} {k : Nat} {x : α} (hk : 0 < k) (hb : k ≤ 9223372036854775807) (h : l[k - 1]? = some x) : idx l (IntKind.i64.wrap ((k : Int) - 1)) = some x := by
  rw [IntWalk.i64_in _ (by omega), show ((k : Int) - 1) = ((k - 1 : Nat) : Int) by omega, idx_nat, h]
theorem take_next {α : Type} {l : List α} {k : Nat} {x : α} (h : l[k]? = some x) : l.take (k + 1) = l.take k ++ [x] := by
  obtain ⟨hk, e⟩ := List.getElem?_eq_some_iff.1 h
  rw [List.take_succ_eq_append_getElem hk, e]
theorem wrap_in {x : Int} (h1 : -9223372036854775808 ≤ x) (h2 : x ≤ 9223372036854775807) : IntKind.i64.wrap x = x := IntWalk.i64_in _ (by omega)

/-- valid, and above the one ahead of it -/
def upAt {α : Type} (ok : α → Bool) (id : α → Int) (l : List α) (k : Nat) : Bool :=
  match l[k]? with
  | none => true
  | some s => ok s && (decide (k = 0) || (match l[k-1]? with | none => true | some r => decide (id r < id s)))
def upTo {α : Type} (ok : α → Bool) (id : α → Int) (l : List α) (k : Nat) : Bool := (List.range k).all (upAt ok id l)
theorem upTo_zero {α : Type} (ok : α → Bool) (id : α → Int) (l : List α) : upTo ok id l 0 = true := rfl
theorem upTo_succ {α : Type} (ok : α → Bool) (id : α → Int) (l : List α) (k : Nat) : upTo ok id l (k + 1) = (upTo ok id l k && upAt ok id l k) := by simp [upTo, List.range_succ, List.all_append]
theorem upTo_not {α : Type} {ok : α → Bool} {id : α → Int} {l : List α} {k n : Nat} (h : upAt ok id l k = false) (hk : k < n) : upTo ok id l n = false := by
  unfold upTo
  rw [Bool.eq_false_iff]
  intro ha
  have := List.all_eq_true.1 ha k (List.mem_range.2 hk)
  rw [h] at this; exact absurd this (by simp)
/-- a list of at most m valid records with rising ids -/
def upL {α : Type} (m : Nat) (ok : α → Bool) (id : α → Int) (l : List α) : Bool := decide (l.length ≤ m) && upTo ok id l l.length
theorem upAt_bad {α : Type} {ok : α → Bool} {id : α → Int} {l : List α} {k : Nat} {s : α} (hs : l[k]? = some s) (h : ok s = false) : upAt ok id l k = false := by unfold upAt; rw [hs]; simp [h]
theorem upAt_first {α : Type} {ok : α → Bool} {id : α → Int} {l : List α} {s : α} (hs : l[0]? = some s) (h : ok s = true) : upAt ok id l 0 = true := by unfold upAt; rw [hs]; simp [h]
theorem upAt_next {α : Type} {ok : α → Bool} {id : α → Int} {l : List α} {k : Nat} {s r : α} (hs : l[k]? = some s) (hr : l[k-1]? = some r) (hk : 0 < k) (h : ok s = true) : upAt ok id l k = decide (id r < id s) := by
  unfold upAt; rw [hs]; simp only [hr, h, Bool.true_and, decide_eq_false (show ¬ k = 0 by omega), Bool.false_or]
theorem upL_len {α : Type} {m : Nat} {ok : α → Bool} {id : α → Int} {l : List α} (h : upL m ok id l = true) : l.length ≤ m := by unfold upL at h; simp only [Bool.and_eq_true, decide_eq_true_eq] at h; exact h.1
theorem upL_ok {α : Type} {m : Nat} {ok : α → Bool} {id : α → Int} {l : List α} (h : upL m ok id l = true) {k : Nat} {s : α} (hs : l[k]? = some s) : ok s = true := by
  unfold upL at h
  simp only [Bool.and_eq_true, decide_eq_true_eq] at h
  have := List.all_eq_true.1 h.2 k (List.mem_range.2 (List.getElem?_eq_some_iff.1 hs).1)
  unfold upAt at this
  rw [hs] at this
  simp only [Bool.and_eq_true] at this
  exact this.1
theorem upL_mem {α : Type} {m : Nat} {ok : α → Bool} {id : α → Int} {l : List α} (h : upL m ok id l = true) {s : α} (hs : s ∈ l) : ok s = true := by
  obtain ⟨k, hk⟩ := List.getElem?_of_mem hs
  exact upL_ok h hk
/-- a loop that goes through a list of records and stops with 'false' at the first that is bad -/
theorem up_loop {α : Type} {ok : α → Bool} {id : α → Int} {l : List α} {R : Type} {no : R} {f : Nat → Unit → (Unit → Option R) → (Unit → Option R) → Option R} {fin : Unit → Option R}
    (step : ∀ k nx s, l[k]? = some s → (ok s = false → f k () nx fin = some no) ∧ (ok s = true → (k = 0 → f k () nx fin = nx ()) ∧ (0 < k → ∀ r, l[k-1]? = some r → (id r < id s → f k () nx fin = nx ()) ∧ (id s ≤ id r → f k () nx fin = some no)))) :
    cntK f l.length 0 () fin = if upTo ok id l l.length then fin () else some no := by
  have key : ∀ m k, k + m = l.length → upTo ok id l k = true → cntK f m k () fin = if upTo ok id l l.length then fin () else some no := by
    intro m
    induction m with
    | zero => intro k hk hu; obtain rfl : k = l.length := by omega
              rw [hu]; rfl
    | succ m ih =>
      intro k hk hu
      have hlt : k < l.length := by omega
      obtain ⟨s, hs, _⟩ := at_lt hlt
      obtain ⟨h1, h2⟩ := step k (fun s' => cntK f m (k + 1) s' fin) s hs
      show f k () _ fin = _
      cases hok : ok s with
      | false => rw [h1 hok, upTo_not (upAt_bad hs hok) hlt]; rfl
      | true =>
        obtain ⟨h3, h4⟩ := h2 hok
        by_cases hk0 : k = 0
        · rw [h3 hk0]
          subst hk0
          exact ih 1 (by omega) (by rw [upTo_succ, hu, upAt_first hs hok]; rfl)
        · obtain ⟨r, hr, _⟩ := at_lt (l := l) (k := k - 1) (by omega)
          obtain ⟨h5, h6⟩ := h4 (by omega) r hr
          by_cases hlt2 : id r < id s
          · rw [h5 hlt2]
            exact ih (k + 1) (by omega) (by rw [upTo_succ, hu, upAt_next hs hr (by omega) hok]; simpa using hlt2)
          · rw [h6 (by omega), upTo_not (by rw [upAt_next hs hr (by omega) hok]; simpa using hlt2) hlt]; rfl
  exact key l.length 0 (by omega) (upTo_zero ok id l)
end Go.Proofs.Ytgbcdmlcmnaimaa.QLoop

namespace Go.Proofs.Ytgbcdmlcmnaimaa.QDraw
open Go.RowKit
open Go.Proofs.Ytgbcdmlcmnaimaa.GoP Go.Proofs.Ytgbcdmlcmnaimaa.PlainStamp Go.Proofs.Ytgbcdmlcmnaimaa.QBase Go.Proofs.Ytgbcdmlcmnaimaa.QLoop

/-- a tape that may be asked m times more -/
def good (t : GoC.Tape) (m : Nat) : Prop := m ≤ t.left ∧ ∀ i, 0 ≤ t.vals i ∧ t.vals i ≤ 255
theorem good_less {t : GoC.Tape} {m n : Nat} (h : good t m) (hn : n ≤ m) : good t n := ⟨Nat.le_trans hn h.1, h.2⟩
theorem good_of {tapes : List Int → GoC.Tape} (h : GoC.Tells tapes) (code : List Int) {m : Nat} (hm : m ≤ 4611686018427387904) : good (tapes code) m := ⟨by rw [h.1]; exact hm, h.2.1 code⟩
theorem next_ok {t : GoC.Tape} {m : Nat} (h : good t (m + 1)) : ∃ b t', GsL1CurNext.P t = some (b, t') ∧ (0 ≤ b ∧ b ≤ 255) ∧ good t' m := by
  unfold GsL1CurNext.P
  rw [if_pos (by have := h.1; omega)]
  exact ⟨_, _, rfl, h.2 0, by have := h.1; show m ≤ t.left - 1; omega, fun i => h.2 (i + 1)⟩
theorem pick_ok {t : GoC.Tape} {m : Nat} {n : Int} (h : good t (m + 2)) : ∃ x t', GsL1CurPick.P t n = some (x, t') ∧ 0 ≤ x ∧ (x < n ∨ n ≤ 1 ∧ x = 0) ∧ x ≤ 65535 ∧ good t' m := by
  simp only [GsL1CurPick.P, letK, iteK_if]
  by_cases hn : n ≤ 1
  · rw [if_pos (by simpa using hn)]
    exact ⟨0, t, rfl, by omega, by omega, by omega, good_less h (by omega)⟩
  · rw [if_neg (by simpa using hn)]
    obtain ⟨b, t1, e1, hb, h1⟩ := next_ok (m := m + 1) h
    rw [e1]
    simp only [bind2_some]
    by_cases h2 : 200 < n
    · rw [if_pos (by simpa using h2)]
      obtain ⟨b2, t2, e2, hb2, h3⟩ := next_ok (m := m) h1
      rw [e2]
      simp only [bind2_some, GsL1CurPick.j0, unp2, letK]
      rw [guardK_pos (by omega), wrap_in (x := b * 256) (by omega) (by omega), wrap_in (by omega) (by omega), Int.tmod_eq_emod_of_nonneg (by omega)]
      have k1 := Int.emod_nonneg (b * 256 + b2) (show n ≠ 0 by omega)
      have k2 := Int.emod_lt_of_pos (b * 256 + b2) (show 0 < n by omega)
      have k3 : (b * 256 + b2) % n ≤ 65535 := by
        by_cases hq : n ≤ 65536
        · omega
        · rw [Int.emod_eq_of_lt (by omega) (by omega)]; omega
      exact ⟨_, _, rfl, k1, .inl k2, by omega, h3⟩
    · rw [if_neg (by simpa using h2)]
      simp only [GsL1CurPick.j0, unp2, letK]
      rw [guardK_pos (by omega), Int.tmod_eq_emod_of_nonneg (by omega)]
      have k1 := Int.emod_nonneg b (show n ≠ 0 by omega)
      have k2 := Int.emod_lt_of_pos b (show 0 < n by omega)
      exact ⟨_, _, rfl, k1, .inl k2, by omega, good_less h1 (by omega)⟩
theorem among_ok {t : GoC.Tape} {m : Nat} {l : List Int} (h : good t (m + 2)) (h0 : 0 < l.length) : ∃ x t', GsL1CurAmong.P t l = some (x, t') ∧ x ∈ l ∧ good t' m := by
  obtain ⟨x, t', e, hx0, hx, _, hg⟩ := pick_ok (n := (l.length : Int)) h
  simp only [GsL1CurAmong.P, e, bind2_some]
  obtain ⟨y, hy, hyi⟩ := at_lt (l := l) (k := x.toNat) (by omega)
  rw [show ((x.toNat : Nat) : Int) = x by omega] at hyi
  exact ⟨y, t', by rw [hyi]; rfl, List.mem_of_getElem? hy, hg⟩
theorem one_ok {t : GoC.Tape} {m : Nat} {n : Int} (h : good t (m + 2)) : ∃ b t', GsL1CurOne.P t n = some (b, t') ∧ good t' m := by
  obtain ⟨x, t', e, _, _, _, hg⟩ := pick_ok (n := n) h
  exact ⟨x == 0, t', by simp only [GsL1CurOne.P, e, bind2_some, letK], hg⟩
end Go.Proofs.Ytgbcdmlcmnaimaa.QDraw

namespace Go.Proofs.Ytgbcdmlcmnaimaa.QAll
open Go.RowKit
open Go.Proofs.Ytgbcdmlcmnaimaa.GoP Go.Proofs.Ytgbcdmlcmnaimaa.QBase Go.Proofs.Ytgbcdmlcmnaimaa.QLoop

/-- each number below n is good -/
def allN (n : Nat) (p : Nat → Bool) : Bool := (List.range n).all p
theorem lp_ex {σ ρ : Type} {f : σ → (σ → Option ρ) → (σ → Option ρ) → Option ρ} {fin : σ → Option ρ} {Q : ρ → Prop} {n : Nat} (I : Nat → σ → Prop)
    (step : ∀ k s nx, k < n → I k s → (∀ s', I (k + 1) s' → ∃ r, nx s' = some r ∧ Q r) → ∃ r, f s nx fin = some r ∧ Q r) (done : ∀ s nx, I n s → ∃ r, f s nx fin = some r ∧ Q r) :
    ∀ fuel k s, k ≤ n → n - k < fuel → I k s → ∃ r, loopK f fuel s fin = some r ∧ Q r := by
  intro fuel
  induction fuel with
  | zero => intro k s hk hf; omega
  | succ m ih =>
    intro k s hk hf hI
    show ∃ r, f s _ fin = some r ∧ Q r
    by_cases he : k = n
    · subst he; exact done s _ hI
    · exact step k s _ (by omega) hI (fun s' h' => ih (k + 1) s' (by omega) (by omega) h')
end Go.Proofs.Ytgbcdmlcmnaimaa.QAll

namespace Go.Proofs.Ytgbcdmlcmnaimaa.QUp
open Go.RowKit
open Go.Proofs.Ytgbcdmlcmnaimaa.GoP Go.Proofs.Ytgbcdmlcmnaimaa.QBase Go.Proofs.Ytgbcdmlcmnaimaa.QLoop Go.Proofs.Ytgbcdmlcmnaimaa.QAll

theorem upTo_at {α : Type} {ok : α → Bool} {id : α → Int} {l : List α} {n : Nat} (h : upTo ok id l n = true) {k : Nat} (hk : k < n) : upAt ok id l k = true := List.all_eq_true.1 h k (List.mem_range.2 hk)
theorem upTo_step {α : Type} {ok : α → Bool} {id : α → Int} {l : List α} {n : Nat} (h : upTo ok id l n = true) {k : Nat} (hk : k + 1 < n) {x y : α} (hx : l[k]? = some x) (hy : l[k + 1]? = some y) : id x < id y := by
  have := upTo_at h hk
  unfold upAt at this
  rw [hy] at this
  simp only [Nat.add_sub_cancel, hx, Bool.and_eq_true, Bool.or_eq_true, decide_eq_true_eq] at this
  rcases this.2 with h0 | h0
  · omega
  · exact h0
theorem upTo_lt {α : Type} {ok : α → Bool} {id : α → Int} {l : List α} {n : Nat} (h : upTo ok id l n = true) (hn : n ≤ l.length) {i : Nat} : ∀ d {x y : α}, i + d + 1 < n → l[i]? = some x → l[i + d + 1]? = some y → id x < id y := by
  intro d
  induction d with
  | zero => intro x y hk hx hy; exact upTo_step h hk hx hy
  | succ d ih =>
    intro x y hk hx hy
    obtain ⟨z, hz, _⟩ := at_lt (l := l) (k := i + d + 1) (by omega)
    have h1 := ih (by omega) hx hz
    have h2 := upTo_step (k := i + d + 1) h (by omega) hz (by rw [← hy]; rfl)
    omega
/-- rising numbers: the later one is greater -/
theorem up_less {α : Type} {ok : α → Bool} {id : α → Int} {l : List α} (h : upTo ok id l l.length = true) {i j : Nat} {x y : α} (hij : i < j) (hx : l[i]? = some x) (hy : l[j]? = some y) : id x < id y := by
  have hj := (List.getElem?_eq_some_iff.1 hy).1
  exact upTo_lt h (Nat.le_refl _) (j - i - 1) (by omega) hx (by rw [← hy]; congr 1; omega)
/-- a loop with fuel, from k on, by an invariant -/
theorem lp_is {σ ρ : Type} {f : σ → (σ → Option ρ) → (σ → Option ρ) → Option ρ} {fin : σ → Option ρ} {n : Nat} (r : ρ) (I : Nat → σ → Prop)
    (step : ∀ k s nx, k < n → I k s → (∀ s', I (k + 1) s' → nx s' = some r) → f s nx fin = some r) (done : ∀ s nx, I n s → f s nx fin = some r) (fuel : Nat) (k : Nat) (s : σ) (hk : k ≤ n) (hf : n - k < fuel) (hI : I k s) : loopK f fuel s fin = some r := by
  obtain ⟨r', h, rfl⟩ := lp_ex (Q := fun x => x = r) I (fun k s nx hk hI hn => ⟨r, step k s nx hk hI (fun s' h' => by obtain ⟨_, h, rfl⟩ := hn s' h'; exact h), rfl⟩) (fun s nx h => ⟨r, done s nx h, rfl⟩) fuel k s hk hf hI
  exact h
end Go.Proofs.Ytgbcdmlcmnaimaa.QUp

namespace Go.Proofs.Ytgbcdmlcmnaimaa.GsL1CurCovers
open Go.RowKit
open Go.Proofs.Ytgbcdmlcmnaimaa.Rowed Go.Proofs.Ytgbcdmlcmnaimaa.Turn Go.Proofs.Ytgbcdmlcmnaimaa.Aid Go.Proofs.Ytgbcdmlcmnaimaa.GoP Go.Proofs.Ytgbcdmlcmnaimaa.GoM

def l0  (s : (List PCover.Cover) × Int × GoC.Tape) (nx0 bk0 : (List PCover.Cover) × Int × GoC.Tape → Option ((List PCover.Cover) × GoC.Tape)) : Option ((List PCover.Cover) × GoC.Tape) :=
 unp3 s fun list_3l0 n_4l0 c0_c0l0 =>
 letK (decide (n_4l0 < 6)) fun (t_5 : Bool) =>
 iteK t_5
 (bind2 (GsL1CurOne.P c0_c0l0 3) fun (t_7 : Bool) (t_7_tp : GoC.Tape) =>
 letK (!t_7) fun (t_8 : Bool) =>
 iteK t_8
 (letK (IntKind.i64.wrap (13 * n_4l0)) fun (t_12 : Int) =>
 bind2 (GsL1CurCover.P t_7_tp t_12) fun (t_13 : PCover.Cover) (t_13_tp : GoC.Tape) =>
 unCover t_13 fun (t_13_id : Int) (t_13_day : Int) (t_13_zone : Int) (t_13_grams : Int) (t_13_paid : Int) (t_13_from_ : Int) (t_13_to_ : Int) (t_13_leave : Int) (t_13_arrive : Int) =>
 guardK (list_3l0.length ≤ 1099511627776) <|
 letK (list_3l0 ++ [(PCover.Cover.mk t_13_id t_13_day t_13_zone t_13_grams t_13_paid t_13_from_ t_13_to_ t_13_leave t_13_arrive)]) fun (t_15 : (List PCover.Cover)) =>
 letK (IntKind.i64.wrap (n_4l0 + 1)) fun (t_18 : Int) =>
 appK nx0 (t_15, t_18, t_13_tp))
 (letK (IntKind.i64.wrap (n_4l0 + 1)) fun (t_18 : Int) =>
 appK nx0 (list_3l0, t_18, t_7_tp)))
 (appK bk0 (list_3l0, n_4l0, c0_c0l0))

def l1  (s : (List PCover.Cover) × GoC.Tape) (nx1 bk1 : (List PCover.Cover) × GoC.Tape → Option ((List PCover.Cover) × GoC.Tape)) : Option ((List PCover.Cover) × GoC.Tape) :=
 unp2 s fun list_3l1 c0_c0l1 =>
 bind2 (GsL1CurPick.P c0_c0l1 2) fun (t_38 : Int) (t_38_tp : GoC.Tape) =>
 letK (IntKind.i64.wrap (10 + t_38)) fun (t_39 : Int) =>
 letK (decide ((list_3l1.length : Int) < t_39)) fun (t_40 : Bool) =>
 iteK t_40
 (letK (IntKind.i64.wrap (200 + (list_3l1.length : Int))) fun (t_44 : Int) =>
 guardK (list_3l1.length ≤ 1099511627776) <|
 letK (list_3l1 ++ [(PCover.Cover.mk t_44 0 0 5 5 0 1 0 50)]) fun (t_47 : (List PCover.Cover)) =>
 appK nx1 (t_47, t_38_tp))
 (appK bk1 (list_3l1, t_38_tp))

def e1  (s : (List PCover.Cover) × GoC.Tape) : Option ((List PCover.Cover) × GoC.Tape) :=
 unp2 s fun list_3l1 c0_c0l1 =>
 some (list_3l1, c0_c0l1)

def e0 (fuel : Nat) (s : (List PCover.Cover) × Int × GoC.Tape) : Option ((List PCover.Cover) × GoC.Tape) :=
 unp3 s fun list_3l0 n_4l0 c0_c0l0 =>
 bind2 (GsL1CurPick.P c0_c0l0 32) fun (t_21 : Int) (t_21_tp : GoC.Tape) =>
 letK (t_21 == 0) fun (t_22 : Bool) =>
 iteK t_22
 (letK ([0, 13, 999, 1000]) fun (t_27 : (List Int)) =>
 bind2 (GsL1CurAmong.P t_21_tp t_27) fun (t_28 : Int) (t_28_tp : GoC.Tape) =>
 bind2 (GsL1CurCover.P t_28_tp t_28) fun (t_29 : PCover.Cover) (t_29_tp : GoC.Tape) =>
 unCover t_29 fun (t_29_id : Int) (t_29_day : Int) (t_29_zone : Int) (t_29_grams : Int) (t_29_paid : Int) (t_29_from_ : Int) (t_29_to_ : Int) (t_29_leave : Int) (t_29_arrive : Int) =>
 guardK (list_3l0.length ≤ 1099511627776) <|
 letK (list_3l0 ++ [(PCover.Cover.mk t_29_id t_29_day t_29_zone t_29_grams t_29_paid t_29_from_ t_29_to_ t_29_leave t_29_arrive)]) fun (t_31 : (List PCover.Cover)) =>
 some (t_31, t_29_tp))
 (letK (t_21 == 1) fun (t_33 : Bool) =>
 iteK t_33
 (loopK (l1 ) fuel (list_3l0, t_21_tp) (e1 ))
 (some (list_3l0, t_21_tp)))

def P (fuel : Nat) (c : GoC.Tape) : Option ((List PCover.Cover) × GoC.Tape) :=
 loopK (l0 ) fuel (([] : List PCover.Cover), 1, c) (e0 fuel)

set_option maxRecDepth 100000 in
set_option maxHeartbeats 2000000 in
theorem C (fuel : Nat) (c : GoC.Tape)   (g0 : Nat) (Ac0 : Option Addr) (cc0 : Nat) (bc0 : Nat) (w : World)   (K0 : Hid (GoC.CurIs w bc0 g0 Ac0 cc0 c)) {r : (List PCover.Cover)} {t_ : GoC.Tape} (H : Hid (P fuel c = some (r, t_))) :
  Calls Try.prog 65 #[.pointer (some ⟨g0, 0, none⟩)] w (fun e w' => ∃ A_r c_r, e = .returned (.slice A_r r.length c_r) ∧ w'.ownsRow w.heap.size 27 9 (.slice A_r r.length c_r) r.length (PCover.flat r) ∧ GoC.CurIs w' bc0 g0 Ac0 cc0 t_ ∧ w.grownBy w' (Value.slice (some ⟨g0, 0, none⟩) 1 1).ownBlock) := by
 have HB := Lib.hid (Aid.grown_refl w (Value.slice (some ⟨g0, 0, none⟩) 1 1).ownBlock); unfold P at H; have L0 : bc0 ≤ w.heap.size := (by have := GoC.cur_lt K0.out; omega); obtain ⟨r11, k11, l11, p11, n11⟩ := Aid.info_parts (P := Try.prog) (T := 27) (z := .agg #[.int .i64 0, .int .i64 0, .int .i64 0, .int .i64 0, .int .i64 0, .int .i64 0, .int .i64 0, .int .i64 0, .int .i64 0]) (s := 9) (b := 72) (by kernel_rfl)
 go_enter Try.func65, Try.ntmps65
 obtain ⟨y13, f12⟩ : ∃ x, w.alloc (.cells #[] 27) = x := ⟨_, rfl⟩; have f11 : Below w.heap.size w y13 := (by rw [← f12]; exact (Below.refl _ _).alloc (Nat.le_refl _) _); have Ot_1 : Hid (y13.ownsRow w.heap.size 27 9 (.slice (some ⟨w.heap.size, 0, none⟩) 0 0) 0 []) := Lib.hid (by rw [← f12]; exact own_empty HB.out.size); have g15 := Lib.hid (GoC.apart_cur K0.out); have k15 := Lib.hid (grown_below HB.out f11); replace K0 := Lib.hid (GoC.cur_below K0.out f11); clear f11; go_wp2_with fail; go_loopg [3, 4] (fuel) (fun m_ v3_ v4_ wr => ∃ (j10 : (List PCover.Cover)) (q11 : Int) (p10 : GoC.Tape) (m10 : Option Addr) (v10 : Nat), v3_ = .slice m10 j10.length v10 ∧ v4_ = .int .i64 q11 ∧ Hid (loopK (l0 ) m_ (j10, q11, p10) (e0 fuel) = some (r, t_)) ∧ Hid (w.grownBy wr (Value.slice (some ⟨g0, 0, none⟩) 1 1).ownBlock) ∧ Hid (wr.ownsRow w.heap.size 27 9 (.slice m10 j10.length v10) j10.length (PCover.flat j10)) ∧ Hid (Apart m10 (some ⟨g0, 0, none⟩)) ∧ Hid (GoC.CurIs wr bc0 g0 Ac0 cc0 p10))
 case atStart => exact ⟨_, _, _, _, _, rfl, rfl, H, k15, Ot_1, Lib.hid g15.out, K0⟩
 case round =>
  obtain ⟨j10, q11, p10, m10, v10, rfl, rfl, H, a14, a10, b10, a11⟩ := hrel; rename World => wr0
  cases gk with
  | zero => exact (loop_zero H).elim
  | succ m0 =>
   replace H := loop_succ H; unfold l0 at H; replace H := unp3_hid H; replace H := let_hid H; obtain ⟨t_5, ht_5, H⟩ := H
   cases t_5 with
   | false =>
    replace H := ite_f H; replace H := app_hid H; unfold e0 at H; replace H := unp3_hid H; replace H := bind2_hid H; obtain ⟨t_21, d15, c15, H⟩ := H; go_wp2_with fail; go_at_call 63; refine (GsL1CurPick.C (p10) (32) (g0) (Ac0) (cc0) (bc0) _   a11 c15).mono ?_; rintro i16 k10 ⟨rfl, e12, b13⟩; have e10 := Lib.hid e12; have j11 : Hid (wr0.grownBy k10 (Value.slice (some ⟨g0, 0, none⟩) 1 1).ownBlock) := Lib.hid b13; clear e12 b13; have w10 := Lib.hid (Aid.grown_tr a14.out j11.out); replace a10 := Lib.hid (own_other a10.out j11.out (Apart.symm b10.out)); clear a11 j11; replace H := let_hid H; obtain ⟨t_22, k16, H⟩ := H
    cases t_22 with
    | false =>
     replace H := ite_f H; replace H := let_hid H; obtain ⟨t_33, q15, H⟩ := H
     cases t_33 with
     | false =>
      replace H := ite_f H; cases ret_hid H; go_wp2_with fail; go_ret; exact ⟨m10, v10, rfl, a10.out, e10.out, w10.out⟩
     | true =>
      replace H := ite_t H; go_wp2_with fail; go_loopg [3] (fuel) (fun m_ v3_ wr => ∃ (g10 : (List PCover.Cover)) (c11 : GoC.Tape) (o10 : Option Addr) (t10 : Nat), v3_ = .slice o10 g10.length t10 ∧ Hid (loopK (l1 ) m_ (g10, c11) (e1 ) = some (r, t_)) ∧ Hid (w.grownBy wr (Value.slice (some ⟨g0, 0, none⟩) 1 1).ownBlock) ∧ Hid (wr.ownsRow w.heap.size 27 9 (.slice o10 g10.length t10) g10.length (PCover.flat g10)) ∧ Hid (Apart o10 (some ⟨g0, 0, none⟩)) ∧ Hid (GoC.CurIs wr bc0 g0 Ac0 cc0 c11))
      case atStart => exact ⟨_, _, _, _, rfl, H, w10, a10, Lib.hid b10.out, e10⟩
      case round =>
       obtain ⟨g10, c11, o10, t10, rfl, H, b15, d10, h11, l12⟩ := hrel; rename World => wr1
       cases gk with
       | zero => exact (loop_zero H).elim
       | succ m1 =>
        replace H := loop_succ H; unfold l1 at H; replace H := unp2_hid H; replace H := bind2_hid H; obtain ⟨t_38, d16, j15, H⟩ := H; go_wp2_with fail; go_at_call 63; refine (GsL1CurPick.C (c11) (2) (g0) (Ac0) (cc0) (bc0) _   l12 j15).mono ?_; rintro x15 r10 ⟨rfl, r13, y12⟩; have f10 := Lib.hid r13; have o11 : Hid (wr1.grownBy r10 (Value.slice (some ⟨g0, 0, none⟩) 1 1).ownBlock) := Lib.hid y12; clear r13 y12; have k13 := Lib.hid (Aid.grown_tr b15.out o11.out); replace d10 := Lib.hid (own_other d10.out o11.out (Apart.symm h11.out)); clear l12 o11; replace H := let_hid H; obtain ⟨t_39, r15, H⟩ := H; replace H := let_hid H; obtain ⟨t_40, o15, H⟩ := H
        cases t_40 with
        | false =>
         replace H := ite_f H; replace H := app_hid H; unfold e1 at H; replace H := unp2_hid H; cases ret_hid H; go_wp2_with fail; go_ret; exact ⟨o10, t10, rfl, d10.out, f10.out, k13.out⟩
        | true =>
         replace H := ite_t H; replace H := let_hid H; obtain ⟨t_44, p15, H⟩ := H; obtain ⟨i15, i12⟩ : ∃ x, r10.alloc (.cells #[.int .i64 t_44, .int .i64 0, .int .i64 0, .int .i64 5, .int .i64 5, .int .i64 0, .int .i64 1, .int .i64 0, .int .i64 50] 27) = x := ⟨_, rfl⟩; have y10 : Below r10.heap.size r10 i15 := (by rw [← i12]; exact (Below.refl _ _).alloc (Nat.le_refl _) _); have n13 := Lib.hid (grown_below k13.out y10); replace d10 := Lib.hid (own_below d10.out y10); replace f10 := Lib.hid (GoC.cur_below f10.out y10); clear y10; replace H := guard_hid H; obtain ⟨z15, H⟩ := H; replace H := let_hid H; obtain ⟨t_47, q12, H⟩ := H; have t14 := Lib.hid q12; clear q12; have t13 := n13.out.size; go_wp2_with (at_builtin; refine wpList_append_own_at _ rfl _ _ 45 rfl w.heap.size 27 r11 (.agg #[.int .i64 0, .int .i64 0, .int .i64 0, .int .i64 0, .int .i64 0, .int .i64 0, .int .i64 0, .int .i64 0, .int .i64 0]) 9 72 Try.underlying45 k11 l11 p11 n11 rfl (by decide) _ _ _ rfl d10.out ⟨r10.heap.size, 0, none⟩ 1 1 [.int .i64 t_44, .int .i64 0, .int .i64 0, .int .i64 5, .int .i64 5, .int .i64 0, .int .i64 1, .int .i64 0, .int .i64 50] rfl rfl (news_new i12) (one_cells rfl) (by unfold maxLen; omega) (by omega) t13 ?_; intro vt_47 wt_47 ot_47 gt_47 zt_47 yt_47; clear zt_47; obtain ⟨y14, e16, rfl, t12⟩ := own_push t14.out (PCover.flat_snoc _ _) rfl ot_47; have f15 := Lib.hid t12; have z13 := Lib.hid yt_47; have s11 := Lib.hid gt_47; clear ot_47 gt_47 t12 yt_47; refine stop_in ?_); refine stop_out ?_; have v14 := Lib.hid (GoC.grown_new n13.out s11.out (GoC.own_ge d10.out)); clear t13; have w14 : Hid (Apart (some ⟨y14, 0, none⟩) _) := Lib.hid (apart_app h11.out (fun a_ ha_ => by cases ha_; exact (GoC.cur_lt f10.out).2) z13.out); replace f10 := Lib.hid (GoC.cur_otherO f10.out s11.out h11.out L0 d10.out); clear d10 z13 s11; replace H := app_hid H; go_wp2_with fail
         go_roundg m1
         case measure => omega
         case rel => exact ⟨_, _, _, _, rfl, H, v14, f15, Lib.hid w14.out, f10⟩
    | true =>
     replace H := ite_t H; replace H := let_hid H; obtain ⟨t_27, s10, H⟩ := H; obtain ⟨x11, j12⟩ : ∃ x, k10.alloc (.cells #[.int .i64 0, .int .i64 13, .int .i64 999, .int .i64 1000] 3) = x := ⟨_, rfl⟩; have x10 : Below k10.heap.size k10 x11 := (by rw [← j12]; exact (Below.refl _ _).alloc (Nat.le_refl _) _); have z11 := w10.out.size; have v11 : t_27.length = 4 := (by rw [← s10]; rfl)
     have c10 : Hid (x11.ownsRow w.heap.size 3 1 (.slice (some ⟨k10.heap.size, 0, none⟩) 4 4) 4 (HelpInt.iv t_27)) := by
      rw [← j12, ← s10]; have e_ : ([.int .i64 0, .int .i64 13, .int .i64 999, .int .i64 1000] : List Value) = (HelpInt.iv ([0, 13, 999, 1000] : List Int)) := rfl; exact Lib.hid (own_laid (n := 4) z11 e_ rfl (by unfold maxLen; omega))
     clear z11; have y15 := Lib.hid s10; clear s10; replace v11 := Lib.hid v11; have d14 := Lib.hid (apart_fresh a10.out); have m11 := Lib.hid (GoC.apart_cur e10.out); have m14 := Lib.hid (grown_below w10.out x10); replace a10 := Lib.hid (own_below a10.out x10); replace e10 := Lib.hid (GoC.cur_below e10.out x10); clear x10; replace H := bind2_hid H; obtain ⟨t_28, m15, s14, H⟩ := H; go_wp2_with fail; have hc0_ := v11.out; have y11 := Lib.hid (own_len hc0_ c10.out); have con_ := GsL1CurAmong.C (d15) (t_27) (some ⟨k10.heap.size, 0, none⟩) 4 (g0) (Ac0) (cc0) (bc0) _   (Lib.hid (own_cells y11.out)) (Lib.hid (own_max y11.out)) e10 (Lib.hid (fun _ => m11.out)) s14; rw [hc0_] at con_; clear hc0_ y11; go_at_call 56; refine con_.mono ?_; rintro w15 d13 ⟨rfl, l13, h13⟩; have p12 := Lib.hid l13; have z10 : Hid (x11.grownBy d13 (Value.slice (some ⟨g0, 0, none⟩) 1 1).ownBlock) := Lib.hid h13; clear l13 h13; have p14 := Lib.hid (Aid.grown_tr m14.out z10.out); replace a10 := Lib.hid (own_other a10.out z10.out (Apart.symm b10.out)); replace c10 := Lib.hid (own_other c10.out z10.out (Apart.symm m11.out)); clear e10 z10; replace H := bind2_hid H; obtain ⟨t_29, h16, x14, H⟩ := H; obtain ⟨z12, s13, x13, v12, c14, e14, x12, o12, a13⟩ := t_29; replace H := unCover_hid H; go_wp2_with fail; go_at_call 36; refine (GsL1CurCover.C (m15) (t_28) (g0) (Ac0) (cc0) (bc0) _   p12 x14).mono ?_; rintro j16 q10 ⟨rfl, o13, f13⟩; unfold PCover.Cover.val; have h10 := Lib.hid o13; have e11 : Hid (d13.grownBy q10 (Value.slice (some ⟨g0, 0, none⟩) 1 1).ownBlock) := Lib.hid f13; clear o13 f13; have r14 := Lib.hid (Aid.grown_tr p14.out e11.out); replace a10 := Lib.hid (own_other a10.out e11.out (Apart.symm b10.out)); replace c10 := Lib.hid (own_other c10.out e11.out (Apart.symm m11.out)); clear p12 e11; obtain ⟨h14, c12⟩ : ∃ x, q10.alloc (.cells #[.int .i64 z12, .int .i64 s13, .int .i64 x13, .int .i64 v12, .int .i64 c14, .int .i64 e14, .int .i64 x12, .int .i64 o12, .int .i64 a13] 27) = x := ⟨_, rfl⟩; have n10 : Below q10.heap.size q10 h14 := (by rw [← c12]; exact (Below.refl _ _).alloc (Nat.le_refl _) _); have b12 := Lib.hid (grown_below r14.out n10); replace a10 := Lib.hid (own_below a10.out n10); replace c10 := Lib.hid (own_below c10.out n10); replace h10 := Lib.hid (GoC.cur_below h10.out n10); clear n10; replace H := guard_hid H; obtain ⟨t15, H⟩ := H; replace H := let_hid H; obtain ⟨t_31, s12, H⟩ := H; have i14 := Lib.hid s12; clear s12; have b14 := b12.out.size; go_wp2_with (at_builtin; refine wpList_append_own_at _ rfl _ _ 45 rfl w.heap.size 27 r11 (.agg #[.int .i64 0, .int .i64 0, .int .i64 0, .int .i64 0, .int .i64 0, .int .i64 0, .int .i64 0, .int .i64 0, .int .i64 0]) 9 72 Try.underlying45 k11 l11 p11 n11 rfl (by decide) _ _ _ rfl a10.out ⟨q10.heap.size, 0, none⟩ 1 1 [.int .i64 z12, .int .i64 s13, .int .i64 x13, .int .i64 v12, .int .i64 c14, .int .i64 e14, .int .i64 x12, .int .i64 o12, .int .i64 a13] rfl rfl (news_new c12) (one_cells rfl) (by unfold maxLen; omega) (by omega) b14 ?_; intro vt_31 wt_31 ot_31 gt_31 zt_31 yt_31; clear zt_31; obtain ⟨w11, o14, rfl, w12⟩ := own_push i14.out (PCover.flat_snoc _ _) rfl ot_31; have l15 := Lib.hid w12; have t11 := Lib.hid yt_31; have b11 := Lib.hid gt_31; clear ot_31 gt_31 w12 yt_31; refine stop_in ?_); refine stop_out ?_; have h15 := Lib.hid (GoC.grown_new b12.out b11.out (GoC.own_ge a10.out)); clear b14; have a16 : Hid (Apart (some ⟨w11, 0, none⟩) _) := Lib.hid (apart_app b10.out (fun a_ ha_ => by cases ha_; exact (GoC.cur_lt h10.out).2) t11.out); have n15 : Hid (Apart (some ⟨w11, 0, none⟩) _) := Lib.hid (apart_app (Apart.symm d14.out) (fun a_ ha_ => (own_lt c10.out a_ ha_).2) t11.out); replace c10 := Lib.hid (own_other c10.out b11.out (Apart.symm d14.out)); replace h10 := Lib.hid (GoC.cur_otherO h10.out b11.out b10.out L0 a10.out); clear a10 t11 b11; cases ret_hid H; go_wp2_with fail; go_ret; exact ⟨(some ⟨w11, 0, none⟩), o14, rfl, l15.out, h10.out, h15.out⟩
   | true =>
    replace H := ite_t H; replace H := bind2_hid H; obtain ⟨t_7, z14, qt_7, H⟩ := H; go_wp2_with fail; go_at_call 75; refine (GsL1CurOne.C (p10) (3) (g0) (Ac0) (cc0) (bc0) _   a11 qt_7).mono ?_; rintro v15 wt_7 ⟨rfl, kt_7, gt_7⟩; have Kt_7 := Lib.hid kt_7; have Gt_7 : Hid (wr0.grownBy wt_7 (Value.slice (some ⟨g0, 0, none⟩) 1 1).ownBlock) := Lib.hid gt_7; clear kt_7 gt_7; have g13 := Lib.hid (Aid.grown_tr a14.out Gt_7.out); replace a10 := Lib.hid (own_other a10.out Gt_7.out (Apart.symm b10.out)); clear a11 Gt_7
    cases t_7 with
    | false =>
     replace H := let_hid H; obtain ⟨t_8, ht_8, H⟩ := H; obtain rfl : t_8 = true := ht_8.symm; replace H := ite_t H; replace H := let_hid H; obtain ⟨t_12, g16, H⟩ := H; replace H := bind2_hid H; obtain ⟨t_13, c16, k14, H⟩ := H; obtain ⟨j13, r12, g12, i13, m12, n12, p13, a12, k12⟩ := t_13; replace H := unCover_hid H; go_wp2_with fail; go_at_call 36; refine (GsL1CurCover.C (z14) (t_12) (g0) (Ac0) (cc0) (bc0) _   Kt_7 k14).mono ?_; rintro b16 l10 ⟨rfl, e13, h12⟩; unfold PCover.Cover.val; have i10 := Lib.hid e13; have i11 : Hid (wt_7.grownBy l10 (Value.slice (some ⟨g0, 0, none⟩) 1 1).ownBlock) := Lib.hid h12; clear e13 h12; have g14 := Lib.hid (Aid.grown_tr g13.out i11.out); replace a10 := Lib.hid (own_other a10.out i11.out (Apart.symm b10.out)); clear Kt_7 i11; obtain ⟨n14, w13⟩ : ∃ x, l10.alloc (.cells #[.int .i64 j13, .int .i64 r12, .int .i64 g12, .int .i64 i13, .int .i64 m12, .int .i64 n12, .int .i64 p13, .int .i64 a12, .int .i64 k12] 27) = x := ⟨_, rfl⟩; have d11 : Below l10.heap.size l10 n14 := (by rw [← w13]; exact (Below.refl _ _).alloc (Nat.le_refl _) _); have m13 := Lib.hid (grown_below g14.out d11); replace a10 := Lib.hid (own_below a10.out d11); replace i10 := Lib.hid (GoC.cur_below i10.out d11); clear d11; replace H := guard_hid H; obtain ⟨f16, H⟩ := H; replace H := let_hid H; obtain ⟨t_15, d12, H⟩ := H; have f14 := Lib.hid d12; clear d12; have v13 := m13.out.size; go_wp2_with (at_builtin; refine wpList_append_own_at _ rfl _ _ 45 rfl w.heap.size 27 r11 (.agg #[.int .i64 0, .int .i64 0, .int .i64 0, .int .i64 0, .int .i64 0, .int .i64 0, .int .i64 0, .int .i64 0, .int .i64 0]) 9 72 Try.underlying45 k11 l11 p11 n11 rfl (by decide) _ _ _ rfl a10.out ⟨l10.heap.size, 0, none⟩ 1 1 [.int .i64 j13, .int .i64 r12, .int .i64 g12, .int .i64 i13, .int .i64 m12, .int .i64 n12, .int .i64 p13, .int .i64 a12, .int .i64 k12] rfl rfl (news_new w13) (one_cells rfl) (by unfold maxLen; omega) (by omega) v13 ?_; intro vt_15 wt_15 ot_15 gt_15 zt_15 yt_15; clear zt_15; obtain ⟨l14, s15, rfl, q13⟩ := own_push f14.out (PCover.flat_snoc _ _) rfl ot_15; have q14 := Lib.hid q13; have c13 := Lib.hid yt_15; have g11 := Lib.hid gt_15; clear ot_15 gt_15 q13 yt_15; refine stop_in ?_); refine stop_out ?_; have e15 := Lib.hid (GoC.grown_new m13.out g11.out (GoC.own_ge a10.out)); clear v13; have j14 : Hid (Apart (some ⟨l14, 0, none⟩) _) := Lib.hid (apart_app b10.out (fun a_ ha_ => by cases ha_; exact (GoC.cur_lt i10.out).2) c13.out); replace i10 := Lib.hid (GoC.cur_otherO i10.out g11.out b10.out L0 a10.out); clear a10 c13 g11; replace H := let_hid H; obtain ⟨t_18, a15, H⟩ := H; replace H := app_hid H; go_wp2_with fail
     go_roundg m0
     case measure => omega
     case rel => exact ⟨_, _, _, _, _, rfl, rfl, H, e15, q14, Lib.hid j14.out, i10⟩
    | true =>
     replace H := let_hid H; obtain ⟨t_8, ht_8, H⟩ := H; obtain rfl : t_8 = false := ht_8.symm; replace H := ite_f H; replace H := let_hid H; obtain ⟨t_18, a15, H⟩ := H; replace H := app_hid H; go_wp2_with fail
     go_roundg m0
     case measure => omega
     case rel => exact ⟨_, _, _, _, _, rfl, rfl, H, g13, a10, Lib.hid b10.out, Kt_7⟩
end Go.Proofs.Ytgbcdmlcmnaimaa.GsL1CurCovers

