/- Texts on which the proofs of several laws stand, one behind the other (11 of 20). No condition of their own. -/
import Derived.Test.YtgbcdmlcmnaimaaChecked
import Derived.Test.YtgbcdmlcmnaimaaX10P1
import Derived.Test.YtgbcdmlcmnaimaaX10P4
import Derived.Test.YtgbcdmlcmnaimaaX10P10
import Derived.Test.YtgbcdmlcmnaimaaX10P9
import Derived.WalkKit
import Derived.WalkSpells
import Derived.WalkLawsBesides
import Derived.BigQuiet
import Derived.OwnWalk
import Derived.Deep.LoopGhost
import Derived.Deep.QuietTactic
import Derived.IntWalk
import Derived.Lib.QuietBelow
import Derived.Test.YtgbcdmlcmnaimaaX10P7
import Derived.Test.YtgbcdmlcmnaimaaX10P6
set_option linter.unusedVariables false
set_option linter.unusedSimpArgs false
namespace Go.Proofs.Ytgbcdmlcmnaimaa.GsBestRoute
open Go.RowKit
open Go.Proofs.Ytgbcdmlcmnaimaa.Rowed Go.Proofs.Ytgbcdmlcmnaimaa.Turn Go.Proofs.Ytgbcdmlcmnaimaa.Aid Go.Proofs.Ytgbcdmlcmnaimaa.GoP Go.Proofs.Ytgbcdmlcmnaimaa.GoM

def l1 (list : (List PMail.Mail)) (to_3 : Int) (t_8a : Int) (k1 : Nat) (s : Int × Int × (List Int)) (nx1 bk1 : Int × Int × (List Int) → Option ((List Int) × Bool)) : Option ((List Int) × Bool) :=
 unp3 s fun from_1l1 minute_2l1 out_10l1 =>
 Option.bind (idx list (k1 : Int)) fun (yt_34 : PMail.Mail) =>
 unMail yt_34 fun (t_34_leave : Int) (t_34_from_ : Int) (t_34_to_ : Int) (t_34_arrive : Int) =>
 letK (t_34_from_ == from_1l1) fun (t_41 : Bool) =>
 joinK (fun (t_47 : Bool) =>
 joinK (fun (t_60 : Bool) =>
 iteK t_60
 (guardK (out_10l1.length ≤ 1099511627776) <|
 letK (out_10l1 ++ [(k1 : Int)]) fun (t_64 : (List Int)) =>
 appK bk1 (t_34_to_, t_34_arrive, t_64))
 (appK nx1 (from_1l1, minute_2l1, out_10l1))) fun jt_60 => iteK t_47 (Option.bind (GsL9Times.P list t_34_to_ t_34_arrive) fun (t_54 : (List Int)) =>
 Option.bind (idx t_54 to_3) fun (yt_56 : Int) =>
 letK (yt_56 == t_8a) fun (t_59 : Bool) =>
 appK jt_60 t_59) (appK jt_60 false)) fun jt_47 => iteK t_41 (letK (decide (minute_2l1 ≤ t_34_leave)) fun (t_46 : Bool) =>
 appK jt_47 t_46) (appK jt_47 false)

def e1 (nx0 : (Int × Int × (List Int)) → Option ((List Int) × Bool)) (s : Int × Int × (List Int)) : Option ((List Int) × Bool) :=
 unp3 s fun from_1l1 minute_2l1 out_10l1 =>
 appK nx0 (from_1l1, minute_2l1, out_10l1)

def l0 (list : (List PMail.Mail)) (to_3 : Int) (t_8a : Int) (s : Int × Int × (List Int)) (nx0 bk0 : Int × Int × (List Int) → Option ((List Int) × Bool)) : Option ((List Int) × Bool) :=
 unp3 s fun from_1l0 minute_2l0 out_10l0 =>
 letK (from_1l0 != to_3) fun (t_21 : Bool) =>
 joinK (fun (t_26 : Bool) =>
 iteK t_26
 (cntK (l1 list to_3 t_8a) (list.length) 0 (from_1l0, minute_2l0, out_10l0) (e1 nx0))
 (appK bk0 (from_1l0, minute_2l0, out_10l0))) fun jt_26 => iteK t_21 (appK jt_26 true) (letK (minute_2l0 != t_8a) fun (t_25 : Bool) =>
 appK jt_26 t_25)

def e0  (s : Int × Int × (List Int)) : Option ((List Int) × Bool) :=
 unp3 s fun from_1l0 minute_2l0 out_10l0 =>
 some (out_10l0, true)

def P (fuel : Nat) (list : (List PMail.Mail)) (from_1 : Int) (minute : Int) (to_3 : Int) : Option ((List Int) × Bool) :=
 bind2 (GsEarliestAt.P list from_1 minute to_3) fun (t_8a : Int) (t_8b : Bool) =>
 letK (!t_8b) fun (t_15 : Bool) =>
 iteK t_15
 (some (([] : List Int), false))
 (loopK (l0 list to_3 t_8a) fuel (from_1, minute, ([] : List Int)) (e0 ))

set_option maxRecDepth 100000 in
set_option maxHeartbeats 2000000 in
theorem C (fuel : Nat) (list : (List PMail.Mail)) (from_1 : Int) (minute : Int) (to_3 : Int) (A0 : Option Addr) (c0 : Nat)  (w : World) (M0 : Hid (Cells w 4 A0 list.length (PMail.flat list))) (N0 : Hid (list.length ≤ 9223372036854775807))  {r0 : (List Int)} {r1 : Bool} (H : Hid (P fuel list from_1 minute to_3 = some (r0, r1))) :
  Calls Try.prog 97 #[.slice A0 list.length c0, .int .i64 from_1, .int .i64 minute, .int .i64 to_3] w (fun e w' => ∃ A_r0 c_r0, e = .returned (.tuple #[.slice A_r0 r0.length c_r0, .bool r1]) ∧ w'.ownsRow w.heap.size 3 1 (.slice A_r0 r0.length c_r0) r0.length (HelpInt.iv r0) ∧ Below w.heap.size w w') := by
 have HB := Lib.hid (Below.refl w.heap.size w); unfold P at H; have N0o := N0.out; obtain ⟨i0_3, hi_3, c14, w13, h13⟩ := Aid.info_parts (P := Try.prog) (T := 3) (z := .int .i64 0) (s := 1) (b := 8) (by kernel_rfl)
 go_enter Try.func97, Try.ntmps97
 obtain ⟨k13, x13⟩ : ∃ x, w.alloc (.cells #[] 3) = x := ⟨_, rfl⟩; have n13 : Below w.heap.size w k13 := (by rw [← x13]; exact (Below.refl _ _).alloc (Nat.le_refl _) _); have Ot_2 : Hid (k13.ownsRow w.heap.size 3 1 (.slice (some ⟨w.heap.size, 0, none⟩) 0 0) 0 []) := Lib.hid (by rw [← x13]; exact own_empty HB.out.size); have b14 := Lib.hid (Below.step HB.out n13); clear n13; replace H := bind2_hid H; obtain ⟨t_8a, t_8b, qt_8, H⟩ := H; go_wp2_with fail; go_at_call 96; refine (GsEarliestAt.C (list) (from_1) (minute) (to_3) A0 c0 _   (Lib.hid (Cells.below M0.out b14.out)) N0 qt_8).mono ?_; rintro d15 wt_8 ⟨rfl, bt_8⟩; have s13 := Lib.hid (Below.step b14.out bt_8); replace Ot_2 := Lib.hid (own_below Ot_2.out bt_8); clear bt_8
 cases t_8b with
 | false =>
  replace H := let_hid H; obtain ⟨t_15, m12, H⟩ := H; obtain rfl : t_15 = true := m12.symm; replace H := ite_t H; cases ret_hid H; go_wp2_with fail; go_ret2; exact ⟨(some ⟨w.heap.size, 0, none⟩), 0, rfl, Ot_2.out, s13.out⟩
 | true =>
  replace H := let_hid H; obtain ⟨t_15, m12, H⟩ := H; obtain rfl : t_15 = false := m12.symm; replace H := ite_f H; go_wp2_with fail; go_loopg [1, 2, 10] (fuel) (fun m_ v1_ v2_ v10_ wr => ∃ (l12 : Int) (r12 : Int) (j11 : (List Int)) (a12 : Option Addr) (f12 : Nat), v1_ = .int .i64 l12 ∧ v2_ = .int .i64 r12 ∧ v10_ = .slice a12 j11.length f12 ∧ Hid (loopK (l0 list to_3 t_8a) m_ (l12, r12, j11) (e0 ) = some (r0, r1)) ∧ Hid (Below w.heap.size w wr) ∧ Hid (wr.ownsRow w.heap.size 3 1 (.slice a12 j11.length f12) j11.length (HelpInt.iv j11)))
  case atStart => exact ⟨_, _, _, _, _, rfl, rfl, rfl, H, s13, Ot_2⟩
  case round =>
   obtain ⟨l12, r12, j11, a12, f12, rfl, rfl, rfl, H, w12, a13⟩ := hrel; rename World => wr0
   cases gk with
   | zero => exact (loop_zero H).elim
   | succ m0 =>
    replace H := loop_succ H; unfold l0 at H; replace H := unp3_hid H; replace H := let_hid H; obtain ⟨t_21, c15, H⟩ := H; replace H := join_hid H
    cases t_21 with
    | false =>
     replace H := ite_f H; replace H := let_hid H; obtain ⟨t_25, e15, H⟩ := H; replace H := app_hid H
     cases t_25 with
     | false =>
      replace H := ite_f H; replace H := app_hid H; unfold e0 at H; replace H := unp3_hid H; cases ret_hid H; go_wp2_with fail; go_ret2; exact ⟨a12, f12, rfl, a13.out, w12.out⟩
     | true =>
      replace H := ite_t H; go_wp2_with fail; go_loopg [13, 1, 2, 10] (list.length) (fun m_ v13_ v1_ v2_ v10_ wr => ∃ (k1 : Nat) (e11 : Int) (i11 : Int) (l10 : (List Int)) (h11 : Option Addr) (g11 : Nat), k1 + m_ = list.length ∧ v13_ = .int .i64 (k1 : Int) ∧ v1_ = .int .i64 e11 ∧ v2_ = .int .i64 i11 ∧ v10_ = .slice h11 l10.length g11 ∧ Hid (cntK (l1 list to_3 t_8a) m_ k1 (e11, i11, l10) (e1 (fun s' => loopK (l0 list to_3 t_8a) m0 s' (e0 ))) = some (r0, r1)) ∧ Hid (Below w.heap.size w wr) ∧ Hid (wr.ownsRow w.heap.size 3 1 (.slice h11 l10.length g11) l10.length (HelpInt.iv l10)))
      case atStart => exact ⟨0, _, _, _, _, _, by omega, rfl, rfl, rfl, rfl, H, w12, a13⟩
      case round =>
       obtain ⟨k1, e11, i11, l10, h11, g11, hkm1, rfl, rfl, rfl, rfl, H, i10, a10⟩ := hrel; rename World => wr1
       cases gk with
       | zero =>
        obtain rfl : k1 = list.length := (by omega); have hc1 : decide (((list.length : Nat) : Int) < ((list.length : Nat) : Int)) = false := (by simp); replace H := cnt_zero H; unfold e1 at H; replace H := unp3_hid H; replace H := app_hid H; go_wp2_with fail
        go_roundg m0
        case measure => omega
        case rel => exact ⟨_, _, _, _, _, rfl, rfl, rfl, H, i10, a10⟩
       | succ m1 =>
        have hlt1 : k1 < list.length := (by omega); have hc1 : decide ((k1 : Int) < ((list.length : Nat) : Int)) = true := (by simp; omega); replace H := cnt_succ H; unfold l1 at H; replace H := unp3_hid H; replace H := idx_hid H; obtain ⟨g12, p12, h12, y12, n12, H⟩ := H; obtain rfl : k1 = g12 := (by omega); clear h12; obtain ⟨q11, o11, c11, a11⟩ := p12; replace H := unMail_hid H; obtain ⟨i12, z12, h14, o12, k11, f10, h10, j10, k10⟩ := OMail.at_ M0.out y12; obtain rfl := Option.some.inj (n12.out.symm.trans k11); subst o12; have s10 := cell_lt f10; replace f10 := cell_below i10.out f10; replace h10 := cell_below i10.out h10; replace j10 := cell_below i10.out j10; replace k10 := cell_below i10.out k10; clear k11; have b15 : (0 : Int) ≤ (k1 : Int) := (by omega); have d14 : (k1 : Int) < ((list.length : Nat) : Int) := (by omega); have y14 : ((k1 : Int)).toNat = k1 := (by omega); obtain ⟨n10, q10⟩ : ∃ x, wr1.alloc (.cells #[.int .i64 q11, .int .i64 o11, .int .i64 c11, .int .i64 a11] 77) = x := ⟨_, rfl⟩; have g10 : Below wr1.heap.size wr1 n10 := (by rw [← q10]; exact (Below.refl _ _).alloc (Nat.le_refl _) _); have o10 := Lib.hid (apart_fresh a10.out); have m10 := Lib.hid (Below.step i10.out g10); have d12 := cell_below g10 f10; have y11 := cell_below g10 h10; have w11 := cell_below g10 j10; have b12 := cell_below g10 k10; replace a10 := Lib.hid (own_below a10.out g10); clear g10; have r10 : n10.cell? ⟨wr1.heap.size, 0, none⟩ = some (.int .i64 q11) := (by rw [← q10]; exact box_new _ _ _ 0 _ rfl); have t10 : n10.cell? ⟨wr1.heap.size, 1, none⟩ = some (.int .i64 o11) := (by rw [← q10]; exact box_new _ _ _ 1 _ rfl); have y10 : n10.cell? ⟨wr1.heap.size, 2, none⟩ = some (.int .i64 c11) := (by rw [← q10]; exact box_new _ _ _ 2 _ rfl); have w10 : n10.cell? ⟨wr1.heap.size, 3, none⟩ = some (.int .i64 a11) := (by rw [← q10]; exact box_new _ _ _ 3 _ rfl); replace H := let_hid H; obtain ⟨t_41, q14, H⟩ := H; replace H := join_hid H
        cases t_41 with
        | false =>
         replace H := ite_f H; replace H := app_hid H; replace H := join_hid H; replace H := ite_f H; replace H := app_hid H; replace H := ite_f H; replace H := app_hid H; go_wp2_with fail; clear f10 h10 j10 k10
         go_roundg m1
         case measure => omega
         case rel => exact ⟨k1 + 1, _, _, _, _, _, by omega, by go_num, rfl, rfl, rfl, H, m10, a10⟩
        | true =>
         replace H := ite_t H; replace H := let_hid H; obtain ⟨t_46, l14, H⟩ := H; replace H := app_hid H; replace H := join_hid H
         cases t_46 with
         | false =>
          replace H := ite_f H; replace H := app_hid H; replace H := ite_f H; replace H := app_hid H; go_wp2_with fail; clear f10 h10 j10 k10
          go_roundg m1
          case measure => omega
          case rel => exact ⟨k1 + 1, _, _, _, _, _, by omega, by go_num, rfl, rfl, rfl, H, m10, a10⟩
         | true =>
          replace H := ite_t H; replace H := bind_hid H; obtain ⟨t_54, x12, H⟩ := H; go_wp2_with fail; clear f10 h10 j10 k10; go_at_call 87; refine (GsL9Times.C (list) (c11) (a11) (some ⟨i12, z12, none⟩) c0 _   (Lib.hid (Cells.below M0.out m10.out)) N0 x12).mono ?_; rintro v14 v10 ⟨w14, p14, rfl, x10, d10⟩; have b11 := Lib.hid (apart_call x10 a10.out); have o14 := Lib.hid (apart_callbox x10 r10); have e10 := Lib.hid (own_lower x10 m10.out.size); clear x10; have t11 := Lib.hid (Below.step m10.out d10); replace d12 := cell_below d10 d12; replace y11 := cell_below d10 y11; replace w11 := cell_below d10 w11; replace b12 := cell_below d10 b12; replace r10 := cell_below d10 r10; replace t10 := cell_below d10 t10; replace y10 := cell_below d10 y10; replace w10 := cell_below d10 w10; replace a10 := Lib.hid (own_below a10.out d10); clear d10; replace H := idx_hid H; obtain ⟨p10, r14, c13, m14, s12, H⟩ := H; subst c13; obtain ⟨n14, d13⟩ := own_some e10.out (by omega); subst d13; obtain ⟨a15, g14, t14, r11, p11, z10⟩ := HelpInt.Ints.at_ (own_cells e10.out) (k := p10) (by omega); obtain rfl := Option.some.inj (s12.out.symm.trans p11); simp only [Option.some.injEq, Addr.mk.injEq] at r11; obtain ⟨rfl, rfl, _⟩ := r11; clear p11; simp only [Nat.zero_add] at z10; have k14 : (0 : Int) ≤ (p10 : Int) := (by omega); have s14 : (p10 : Int) < ((t_54.length : Nat) : Int) := (by omega); have i14 : ((p10 : Int)).toNat = p10 := (by omega); replace H := let_hid H; obtain ⟨t_59, f14, H⟩ := H; replace H := app_hid H
          cases t_59 with
          | false =>
           replace H := ite_f H; replace H := app_hid H; go_wp2_with fail
           go_roundg m1
           case measure => omega
           case rel => exact ⟨k1 + 1, _, _, _, _, _, by omega, by go_num, rfl, rfl, rfl, H, t11, a10⟩
          | true =>
           replace H := ite_t H; obtain ⟨j12, n11⟩ : ∃ x, v10.alloc (.cells #[.int .i64 (k1 : Int)] 3) = x := ⟨_, rfl⟩; have b10 : Below v10.heap.size v10 j12 := (by rw [← n11]; exact (Below.refl _ _).alloc (Nat.le_refl _) _); have s11 := Lib.hid (Below.step t11.out b10); have m13 := cell_below b10 d12; have o13 := cell_below b10 y11; have a14 := cell_below b10 w11; have f13 := cell_below b10 b12; have b13 := cell_below b10 r10; have q13 := cell_below b10 t10; have l13 := cell_below b10 y10; have g13 := cell_below b10 w10; have i13 := cell_below b10 z10; replace a10 := Lib.hid (own_below a10.out b10); replace e10 := Lib.hid (own_below e10.out b10); clear b10; replace H := guard_hid H; obtain ⟨e14, H⟩ := H; replace H := let_hid H; obtain ⟨t_64, l11, H⟩ := H; have q12 := Lib.hid l11; clear l11; have f11 := s11.out.size; go_wp2_with (at_builtin; refine wpList_append_own_at _ rfl _ _ 33 rfl w.heap.size 3 i0_3 (.int .i64 0) 1 8 Try.underlying33 hi_3 c14 w13 h13 rfl (by decide) _ _ _ rfl a10.out ⟨v10.heap.size, 0, none⟩ 1 1 [.int .i64 (k1 : Int)] rfl rfl (news_new n11) (one_cells rfl) (by unfold maxLen; omega) (by omega) f11 ?_; intro vt_64 wt_64 ot_64 gt_64 zt_64 yt_64; clear zt_64; obtain ⟨m11, z14, rfl, v11⟩ := own_push q12.out (HelpInt.iv_snoc _ _) rfl ot_64; have v12 := Lib.hid v11; have d11 := Lib.hid yt_64; have c10 := Lib.hid gt_64; clear ot_64 gt_64 v11 yt_64; refine stop_in ?_); refine stop_out ?_; have k12 := Lib.hid (s11.out.grown c10.out f11 (fun q hq => (a10.out.lt q hq).1)); clear f11; have x14 : Hid (Apart (some ⟨m11, 0, none⟩) _) := Lib.hid (apart_app (Apart.symm o10.out) (fun a_ ha_ => by cases ha_; exact cell_lt b13) d11.out); have j14 : Hid (Apart (some ⟨m11, 0, none⟩) _) := Lib.hid (apart_app (Apart.symm b11.out) (fun a_ ha_ => (own_lt e10.out a_ ha_).2) d11.out); replace m13 := cell_other m13 c10.out (apart_old a10.out s10); replace o13 := cell_other o13 c10.out (apart_old a10.out s10); replace a14 := cell_other a14 c10.out (apart_old a10.out s10); replace f13 := cell_other f13 c10.out (apart_old a10.out s10); replace b13 := cell_other b13 c10.out (Apart.symm o10.out); replace q13 := cell_other q13 c10.out (Apart.symm o10.out); replace l13 := cell_other l13 c10.out (Apart.symm o10.out); replace g13 := cell_other g13 c10.out (Apart.symm o10.out); replace i13 := cell_other i13 c10.out (Apart.symm b11.out); replace e10 := Lib.hid (own_other e10.out c10.out (Apart.symm b11.out)); clear d12 y11 w11 b12 r10 t10 y10 w10 z10; clear a10 d11 c10; replace H := app_hid H; unfold e1 at H; replace H := unp3_hid H; replace H := app_hid H; go_wp2_with fail
           go_roundg m0
           case measure => omega
           case rel => exact ⟨_, _, _, _, _, rfl, rfl, rfl, H, k12, v12⟩
    | true =>
     replace H := ite_t H; replace H := app_hid H; replace H := ite_t H; go_wp2_with fail; go_loopg [13, 1, 2, 10] (list.length) (fun m_ v13_ v1_ v2_ v10_ wr => ∃ (k1 : Nat) (e11 : Int) (i11 : Int) (l10 : (List Int)) (h11 : Option Addr) (g11 : Nat), k1 + m_ = list.length ∧ v13_ = .int .i64 (k1 : Int) ∧ v1_ = .int .i64 e11 ∧ v2_ = .int .i64 i11 ∧ v10_ = .slice h11 l10.length g11 ∧ Hid (cntK (l1 list to_3 t_8a) m_ k1 (e11, i11, l10) (e1 (fun s' => loopK (l0 list to_3 t_8a) m0 s' (e0 ))) = some (r0, r1)) ∧ Hid (Below w.heap.size w wr) ∧ Hid (wr.ownsRow w.heap.size 3 1 (.slice h11 l10.length g11) l10.length (HelpInt.iv l10)))
     case atStart => exact ⟨0, _, _, _, _, _, by omega, rfl, rfl, rfl, rfl, H, w12, a13⟩
     case round =>
      obtain ⟨k1, e11, i11, l10, h11, g11, hkm1, rfl, rfl, rfl, rfl, H, i10, a10⟩ := hrel; rename World => wr1
      cases gk with
      | zero =>
       obtain rfl : k1 = list.length := (by omega); have hc1 : decide (((list.length : Nat) : Int) < ((list.length : Nat) : Int)) = false := (by simp); replace H := cnt_zero H; unfold e1 at H; replace H := unp3_hid H; replace H := app_hid H; go_wp2_with fail
       go_roundg m0
       case measure => omega
       case rel => exact ⟨_, _, _, _, _, rfl, rfl, rfl, H, i10, a10⟩
      | succ m1 =>
       have hlt1 : k1 < list.length := (by omega); have hc1 : decide ((k1 : Int) < ((list.length : Nat) : Int)) = true := (by simp; omega); replace H := cnt_succ H; unfold l1 at H; replace H := unp3_hid H; replace H := idx_hid H; obtain ⟨g12, p12, h12, y12, n12, H⟩ := H; obtain rfl : k1 = g12 := (by omega); clear h12; obtain ⟨q11, o11, c11, a11⟩ := p12; replace H := unMail_hid H; obtain ⟨i12, z12, h14, o12, k11, f10, h10, j10, k10⟩ := OMail.at_ M0.out y12; obtain rfl := Option.some.inj (n12.out.symm.trans k11); subst o12; have s10 := cell_lt f10; replace f10 := cell_below i10.out f10; replace h10 := cell_below i10.out h10; replace j10 := cell_below i10.out j10; replace k10 := cell_below i10.out k10; clear k11; have b15 : (0 : Int) ≤ (k1 : Int) := (by omega); have d14 : (k1 : Int) < ((list.length : Nat) : Int) := (by omega); have y14 : ((k1 : Int)).toNat = k1 := (by omega); obtain ⟨n10, q10⟩ : ∃ x, wr1.alloc (.cells #[.int .i64 q11, .int .i64 o11, .int .i64 c11, .int .i64 a11] 77) = x := ⟨_, rfl⟩; have g10 : Below wr1.heap.size wr1 n10 := (by rw [← q10]; exact (Below.refl _ _).alloc (Nat.le_refl _) _); have o10 := Lib.hid (apart_fresh a10.out); have m10 := Lib.hid (Below.step i10.out g10); have x11 := cell_below g10 f10; have e12 := cell_below g10 h10; have z11 := cell_below g10 j10; have c12 := cell_below g10 k10; replace a10 := Lib.hid (own_below a10.out g10); clear g10; have r10 : n10.cell? ⟨wr1.heap.size, 0, none⟩ = some (.int .i64 q11) := (by rw [← q10]; exact box_new _ _ _ 0 _ rfl); have t10 : n10.cell? ⟨wr1.heap.size, 1, none⟩ = some (.int .i64 o11) := (by rw [← q10]; exact box_new _ _ _ 1 _ rfl); have y10 : n10.cell? ⟨wr1.heap.size, 2, none⟩ = some (.int .i64 c11) := (by rw [← q10]; exact box_new _ _ _ 2 _ rfl); have w10 : n10.cell? ⟨wr1.heap.size, 3, none⟩ = some (.int .i64 a11) := (by rw [← q10]; exact box_new _ _ _ 3 _ rfl); replace H := let_hid H; obtain ⟨t_41, q14, H⟩ := H; replace H := join_hid H
       cases t_41 with
       | false =>
        replace H := ite_f H; replace H := app_hid H; replace H := join_hid H; replace H := ite_f H; replace H := app_hid H; replace H := ite_f H; replace H := app_hid H; go_wp2_with fail; clear f10 h10 j10 k10
        go_roundg m1
        case measure => omega
        case rel => exact ⟨k1 + 1, _, _, _, _, _, by omega, by go_num, rfl, rfl, rfl, H, m10, a10⟩
       | true =>
        replace H := ite_t H; replace H := let_hid H; obtain ⟨t_46, l14, H⟩ := H; replace H := app_hid H; replace H := join_hid H
        cases t_46 with
        | false =>
         replace H := ite_f H; replace H := app_hid H; replace H := ite_f H; replace H := app_hid H; go_wp2_with fail; clear f10 h10 j10 k10
         go_roundg m1
         case measure => omega
         case rel => exact ⟨k1 + 1, _, _, _, _, _, by omega, by go_num, rfl, rfl, rfl, H, m10, a10⟩
        | true =>
         replace H := ite_t H; replace H := bind_hid H; obtain ⟨t_54, x12, H⟩ := H; go_wp2_with fail; clear f10 h10 j10 k10; go_at_call 87; refine (GsL9Times.C (list) (c11) (a11) (some ⟨i12, z12, none⟩) c0 _   (Lib.hid (Cells.below M0.out m10.out)) N0 x12).mono ?_; rintro v14 v10 ⟨w14, p14, rfl, x10, d10⟩; have b11 := Lib.hid (apart_call x10 a10.out); have o14 := Lib.hid (apart_callbox x10 r10); have e10 := Lib.hid (own_lower x10 m10.out.size); clear x10; have t11 := Lib.hid (Below.step m10.out d10); replace x11 := cell_below d10 x11; replace e12 := cell_below d10 e12; replace z11 := cell_below d10 z11; replace c12 := cell_below d10 c12; replace r10 := cell_below d10 r10; replace t10 := cell_below d10 t10; replace y10 := cell_below d10 y10; replace w10 := cell_below d10 w10; replace a10 := Lib.hid (own_below a10.out d10); clear d10; replace H := idx_hid H; obtain ⟨p10, r14, c13, m14, s12, H⟩ := H; subst c13; obtain ⟨n14, d13⟩ := own_some e10.out (by omega); subst d13; obtain ⟨a15, g14, t14, r11, p11, z10⟩ := HelpInt.Ints.at_ (own_cells e10.out) (k := p10) (by omega); obtain rfl := Option.some.inj (s12.out.symm.trans p11); simp only [Option.some.injEq, Addr.mk.injEq] at r11; obtain ⟨rfl, rfl, _⟩ := r11; clear p11; simp only [Nat.zero_add] at z10; have k14 : (0 : Int) ≤ (p10 : Int) := (by omega); have s14 : (p10 : Int) < ((t_54.length : Nat) : Int) := (by omega); have i14 : ((p10 : Int)).toNat = p10 := (by omega); replace H := let_hid H; obtain ⟨t_59, f14, H⟩ := H; replace H := app_hid H
         cases t_59 with
         | false =>
          replace H := ite_f H; replace H := app_hid H; go_wp2_with fail
          go_roundg m1
          case measure => omega
          case rel => exact ⟨k1 + 1, _, _, _, _, _, by omega, by go_num, rfl, rfl, rfl, H, t11, a10⟩
         | true =>
          replace H := ite_t H; obtain ⟨j12, n11⟩ : ∃ x, v10.alloc (.cells #[.int .i64 (k1 : Int)] 3) = x := ⟨_, rfl⟩; have b10 : Below v10.heap.size v10 j12 := (by rw [← n11]; exact (Below.refl _ _).alloc (Nat.le_refl _) _); have s11 := Lib.hid (Below.step t11.out b10); have t13 := cell_below b10 x11; have r13 := cell_below b10 e12; have y13 := cell_below b10 z11; have j13 := cell_below b10 c12; have t12 := cell_below b10 r10; have v13 := cell_below b10 t10; have e13 := cell_below b10 y10; have z13 := cell_below b10 w10; have p13 := cell_below b10 z10; replace a10 := Lib.hid (own_below a10.out b10); replace e10 := Lib.hid (own_below e10.out b10); clear b10; replace H := guard_hid H; obtain ⟨e14, H⟩ := H; replace H := let_hid H; obtain ⟨t_64, l11, H⟩ := H; have q12 := Lib.hid l11; clear l11; have f11 := s11.out.size; go_wp2_with (at_builtin; refine wpList_append_own_at _ rfl _ _ 33 rfl w.heap.size 3 i0_3 (.int .i64 0) 1 8 Try.underlying33 hi_3 c14 w13 h13 rfl (by decide) _ _ _ rfl a10.out ⟨v10.heap.size, 0, none⟩ 1 1 [.int .i64 (k1 : Int)] rfl rfl (news_new n11) (one_cells rfl) (by unfold maxLen; omega) (by omega) f11 ?_; intro vt_64 wt_64 ot_64 gt_64 zt_64 yt_64; clear zt_64; obtain ⟨m11, z14, rfl, v11⟩ := own_push q12.out (HelpInt.iv_snoc _ _) rfl ot_64; have v12 := Lib.hid v11; have d11 := Lib.hid yt_64; have c10 := Lib.hid gt_64; clear ot_64 gt_64 v11 yt_64; refine stop_in ?_); refine stop_out ?_; have k12 := Lib.hid (s11.out.grown c10.out f11 (fun q hq => (a10.out.lt q hq).1)); clear f11; have x14 : Hid (Apart (some ⟨m11, 0, none⟩) _) := Lib.hid (apart_app (Apart.symm o10.out) (fun a_ ha_ => by cases ha_; exact cell_lt t12) d11.out); have j14 : Hid (Apart (some ⟨m11, 0, none⟩) _) := Lib.hid (apart_app (Apart.symm b11.out) (fun a_ ha_ => (own_lt e10.out a_ ha_).2) d11.out); replace t13 := cell_other t13 c10.out (apart_old a10.out s10); replace r13 := cell_other r13 c10.out (apart_old a10.out s10); replace y13 := cell_other y13 c10.out (apart_old a10.out s10); replace j13 := cell_other j13 c10.out (apart_old a10.out s10); replace t12 := cell_other t12 c10.out (Apart.symm o10.out); replace v13 := cell_other v13 c10.out (Apart.symm o10.out); replace e13 := cell_other e13 c10.out (Apart.symm o10.out); replace z13 := cell_other z13 c10.out (Apart.symm o10.out); replace p13 := cell_other p13 c10.out (Apart.symm b11.out); replace e10 := Lib.hid (own_other e10.out c10.out (Apart.symm b11.out)); clear x11 e12 z11 c12 r10 t10 y10 w10 z10; clear a10 d11 c10; replace H := app_hid H; unfold e1 at H; replace H := unp3_hid H; replace H := app_hid H; go_wp2_with fail
          go_roundg m0
          case measure => omega
          case rel => exact ⟨_, _, _, _, _, rfl, rfl, rfl, H, k12, v12⟩
end Go.Proofs.Ytgbcdmlcmnaimaa.GsBestRoute

namespace Go.Proofs.Ytgbcdmlcmnaimaa.GsL10Route
open Go.RowKit
open Go.Proofs.Ytgbcdmlcmnaimaa.Rowed Go.Proofs.Ytgbcdmlcmnaimaa.Turn Go.Proofs.Ytgbcdmlcmnaimaa.Aid Go.Proofs.Ytgbcdmlcmnaimaa.GoP Go.Proofs.Ytgbcdmlcmnaimaa.GoM

def P (fuel : Nat) (mails : (List PMail.Mail)) (x : PCover.Cover) : Option ((List Int) × Bool) :=
 unCover x fun (x_id : Int) (x_day : Int) (x_zone : Int) (x_grams : Int) (x_paid : Int) (x_from_ : Int) (x_to_ : Int) (x_leave : Int) (x_arrive : Int) =>
 bind2 (GsEarliestAt.P mails x_from_ x_leave x_to_) fun (t_10a : Int) (t_10b : Bool) =>
 letK (!t_10b) fun (t_17 : Bool) =>
 joinK (fun (t_23 : Bool) =>
 iteK t_23
 (some (([] : List Int), false))
 (bind2 (GsBestRoute.P fuel mails x_from_ x_leave x_to_) fun (t_34a : (List Int)) (t_34b : Bool) =>
 some (t_34a, t_34b))) fun jt_23 => iteK t_17 (appK jt_23 true) (letK (decide (x_arrive < t_10a)) fun (t_22 : Bool) =>
 appK jt_23 t_22)

set_option maxRecDepth 100000 in
set_option maxHeartbeats 2000000 in
theorem C (fuel : Nat) (mails : (List PMail.Mail)) (x : PCover.Cover) (A0 : Option Addr) (c0 : Nat)  (w : World) (M0 : Hid (Cells w 4 A0 mails.length (PMail.flat mails))) (N0 : Hid (mails.length ≤ 9223372036854775807))  {r0 : (List Int)} {r1 : Bool} (H : Hid (P fuel mails x = some (r0, r1))) :
  Calls Try.prog 50 #[.slice A0 mails.length c0, x.val] w (fun e w' => ∃ A_r0 c_r0, e = .returned (.tuple #[.slice A_r0 r0.length c_r0, .bool r1]) ∧ w'.ownsRow w.heap.size 3 1 (.slice A_r0 r0.length c_r0) r0.length (HelpInt.iv r0) ∧ Below w.heap.size w w') := by
 have HB := Lib.hid (Below.refl w.heap.size w); unfold P at H; obtain ⟨x_id, x_day, x_zone, x_grams, x_paid, x_from_, x_to_, x_leave, x_arrive⟩ := x; replace H := unCover_hid H; unfold PCover.Cover.val; have N0o := N0.out
 go_enter Try.func50, Try.ntmps50
 obtain ⟨f10, e10⟩ : ∃ x, w.alloc (.cells #[.int .i64 x_id, .int .i64 x_day, .int .i64 x_zone, .int .i64 x_grams, .int .i64 x_paid, .int .i64 x_from_, .int .i64 x_to_, .int .i64 x_leave, .int .i64 x_arrive] 27) = x := ⟨_, rfl⟩; have x10 : Below w.heap.size w f10 := (by rw [← e10]; exact (Below.refl _ _).alloc (Nat.le_refl _) _); have y10 := Lib.hid (Below.step HB.out x10); clear x10; have g10 : f10.cell? ⟨w.heap.size, 0, none⟩ = some (.int .i64 x_id) := (by rw [← e10]; exact box_new _ _ _ 0 _ rfl); have n10 : f10.cell? ⟨w.heap.size, 1, none⟩ = some (.int .i64 x_day) := (by rw [← e10]; exact box_new _ _ _ 1 _ rfl); have k10 : f10.cell? ⟨w.heap.size, 2, none⟩ = some (.int .i64 x_zone) := (by rw [← e10]; exact box_new _ _ _ 2 _ rfl); have o10 : f10.cell? ⟨w.heap.size, 3, none⟩ = some (.int .i64 x_grams) := (by rw [← e10]; exact box_new _ _ _ 3 _ rfl); have p10 : f10.cell? ⟨w.heap.size, 4, none⟩ = some (.int .i64 x_paid) := (by rw [← e10]; exact box_new _ _ _ 4 _ rfl); have j10 : f10.cell? ⟨w.heap.size, 5, none⟩ = some (.int .i64 x_from_) := (by rw [← e10]; exact box_new _ _ _ 5 _ rfl); have m10 : f10.cell? ⟨w.heap.size, 6, none⟩ = some (.int .i64 x_to_) := (by rw [← e10]; exact box_new _ _ _ 6 _ rfl); have l10 : f10.cell? ⟨w.heap.size, 7, none⟩ = some (.int .i64 x_leave) := (by rw [← e10]; exact box_new _ _ _ 7 _ rfl); have i10 : f10.cell? ⟨w.heap.size, 8, none⟩ = some (.int .i64 x_arrive) := (by rw [← e10]; exact box_new _ _ _ 8 _ rfl); replace H := bind2_hid H; obtain ⟨x11, d11, f11, H⟩ := H; go_wp2_with fail; go_at_call 96; refine (GsEarliestAt.C (mails) (x_from_) (x_leave) (x_to_) A0 c0 _   (Lib.hid (Cells.below M0.out y10.out)) N0 f11).mono ?_; rintro v11 d10 ⟨rfl, b10⟩; have h10 := Lib.hid (Below.step y10.out b10); replace g10 := cell_below b10 g10; replace n10 := cell_below b10 n10; replace k10 := cell_below b10 k10; replace o10 := cell_below b10 o10; replace p10 := cell_below b10 p10; replace j10 := cell_below b10 j10; replace m10 := cell_below b10 m10; replace l10 := cell_below b10 l10; replace i10 := cell_below b10 i10; clear b10
 cases d11 with
 | false =>
  replace H := let_hid H; obtain ⟨t_17, s10, H⟩ := H; obtain rfl : t_17 = true := s10.symm; replace H := join_hid H; replace H := ite_t H; replace H := app_hid H; replace H := ite_t H; obtain ⟨q10, r10⟩ : ∃ x, d10.alloc (.cells #[] 3) = x := ⟨_, rfl⟩; have a10 : Below d10.heap.size d10 q10 := (by rw [← r10]; exact (Below.refl _ _).alloc (Nat.le_refl _) _); have w10 : Hid (q10.ownsRow w.heap.size 3 1 (.slice (some ⟨d10.heap.size, 0, none⟩) 0 0) 0 []) := Lib.hid (by rw [← r10]; exact own_empty h10.out.size); have z10 := Lib.hid (apart_box g10); have v10 := Lib.hid (Below.step h10.out a10); have y11 := cell_below a10 g10; have n11 := cell_below a10 n10; have h11 := cell_below a10 k10; have l11 := cell_below a10 o10; have r11 := cell_below a10 p10; have i11 := cell_below a10 j10; have c12 := cell_below a10 m10; have z11 := cell_below a10 l10; have a12 := cell_below a10 i10; clear a10; cases ret_hid H; go_wp2_with fail; go_ret2; exact ⟨(some ⟨d10.heap.size, 0, none⟩), 0, rfl, w10.out, v10.out⟩
 | true =>
  replace H := let_hid H; obtain ⟨t_17, s10, H⟩ := H; obtain rfl : t_17 = false := s10.symm; replace H := join_hid H; replace H := ite_f H; replace H := let_hid H; obtain ⟨t_22, t11, H⟩ := H; replace H := app_hid H
  cases t_22 with
  | false =>
   replace H := ite_f H; replace H := bind2_hid H; obtain ⟨m11, j11, a11, H⟩ := H; go_wp2_with fail; go_at_call 97; refine (GsBestRoute.C fuel (mails) (x_from_) (x_leave) (x_to_) A0 c0 _   (Lib.hid (Cells.below M0.out h10.out)) N0 a11).mono ?_; rintro b12 o11 ⟨e11, b11, rfl, t10, c10⟩; have d12 := Lib.hid (apart_callbox t10 g10); have g11 := Lib.hid (own_lower t10 h10.out.size); clear t10; have c11 := Lib.hid (Below.step h10.out c10); replace g10 := cell_below c10 g10; replace n10 := cell_below c10 n10; replace k10 := cell_below c10 k10; replace o10 := cell_below c10 o10; replace p10 := cell_below c10 p10; replace j10 := cell_below c10 j10; replace m10 := cell_below c10 m10; replace l10 := cell_below c10 l10; replace i10 := cell_below c10 i10; clear c10; cases ret_hid H; go_wp2_with fail; go_ret2; exact ⟨e11, b11, rfl, g11.out, c11.out⟩
  | true =>
   replace H := ite_t H; obtain ⟨q10, r10⟩ : ∃ x, d10.alloc (.cells #[] 3) = x := ⟨_, rfl⟩; have a10 : Below d10.heap.size d10 q10 := (by rw [← r10]; exact (Below.refl _ _).alloc (Nat.le_refl _) _); have w10 : Hid (q10.ownsRow w.heap.size 3 1 (.slice (some ⟨d10.heap.size, 0, none⟩) 0 0) 0 []) := Lib.hid (by rw [← r10]; exact own_empty h10.out.size); have z10 := Lib.hid (apart_box g10); have v10 := Lib.hid (Below.step h10.out a10); have w11 := cell_below a10 g10; have h12 := cell_below a10 n10; have g12 := cell_below a10 k10; have p11 := cell_below a10 o10; have s11 := cell_below a10 p10; have k11 := cell_below a10 j10; have e12 := cell_below a10 m10; have f12 := cell_below a10 l10; have q11 := cell_below a10 i10; clear a10; cases ret_hid H; go_wp2_with fail; go_ret2; exact ⟨(some ⟨d10.heap.size, 0, none⟩), 0, rfl, w10.out, v10.out⟩
end Go.Proofs.Ytgbcdmlcmnaimaa.GsL10Route

namespace Go.Proofs.Ytgbcdmlcmnaimaa.GsRouteOn
open Go.RowKit
open Go.Proofs.Ytgbcdmlcmnaimaa.Rowed Go.Proofs.Ytgbcdmlcmnaimaa.Turn Go.Proofs.Ytgbcdmlcmnaimaa.Aid Go.Proofs.Ytgbcdmlcmnaimaa.GoP Go.Proofs.Ytgbcdmlcmnaimaa.GoM

def P (fuel : Nat) (mails : (List PMail.Mail)) (x : PCover.Cover) : Option ((List Int) × Bool) :=
 unCover x fun (x_id : Int) (x_day : Int) (x_zone : Int) (x_grams : Int) (x_paid : Int) (x_from_ : Int) (x_to_ : Int) (x_leave : Int) (x_arrive : Int) =>
 Option.bind (GsL9Good.P mails) fun (t_4 : Bool) =>
 letK (!t_4) fun (t_5 : Bool) =>
 joinK (fun (t_10 : Bool) =>
 iteK t_10
 (some (([] : List Int), false))
 (bind2 (GsL10Route.P fuel mails (PCover.Cover.mk x_id x_day x_zone x_grams x_paid x_from_ x_to_ x_leave x_arrive)) fun (t_16a : (List Int)) (t_16b : Bool) =>
 some (t_16a, t_16b))) fun jt_10 => iteK t_5 (appK jt_10 true) (Option.bind (GsL10One.P (PCover.Cover.mk x_id x_day x_zone x_grams x_paid x_from_ x_to_ x_leave x_arrive)) fun (t_8 : Bool) =>
 letK (!t_8) fun (t_9 : Bool) =>
 appK jt_10 t_9)

set_option maxRecDepth 100000 in
set_option maxHeartbeats 2000000 in
theorem C (fuel : Nat) (mails : (List PMail.Mail)) (x : PCover.Cover) (A0 : Option Addr) (c0 : Nat)  (w : World) (M0 : Hid (Cells w 4 A0 mails.length (PMail.flat mails))) (N0 : Hid (mails.length ≤ 9223372036854775807))  {r0 : (List Int)} {r1 : Bool} (H : Hid (P fuel mails x = some (r0, r1))) :
  Calls Try.prog 12 #[.slice A0 mails.length c0, x.val] w (fun e w' => ∃ A_r0 c_r0, e = .returned (.tuple #[.slice A_r0 r0.length c_r0, .bool r1]) ∧ w'.ownsRow w.heap.size 3 1 (.slice A_r0 r0.length c_r0) r0.length (HelpInt.iv r0) ∧ Below w.heap.size w w') := by
 have HB := Lib.hid (Below.refl w.heap.size w); unfold P at H; obtain ⟨x_id, x_day, x_zone, x_grams, x_paid, x_from_, x_to_, x_leave, x_arrive⟩ := x; replace H := unCover_hid H; unfold PCover.Cover.val; have N0o := N0.out
 go_enter Try.func12, Try.ntmps12
 obtain ⟨d10, e10⟩ : ∃ x, w.alloc (.cells #[.int .i64 x_id, .int .i64 x_day, .int .i64 x_zone, .int .i64 x_grams, .int .i64 x_paid, .int .i64 x_from_, .int .i64 x_to_, .int .i64 x_leave, .int .i64 x_arrive] 27) = x := ⟨_, rfl⟩; have v10 : Below w.heap.size w d10 := (by rw [← e10]; exact (Below.refl _ _).alloc (Nat.le_refl _) _); have w10 := Lib.hid (Below.step HB.out v10); clear v10; have b10 : d10.cell? ⟨w.heap.size, 0, none⟩ = some (.int .i64 x_id) := (by rw [← e10]; exact box_new _ _ _ 0 _ rfl); have h10 : d10.cell? ⟨w.heap.size, 1, none⟩ = some (.int .i64 x_day) := (by rw [← e10]; exact box_new _ _ _ 1 _ rfl); have k10 : d10.cell? ⟨w.heap.size, 2, none⟩ = some (.int .i64 x_zone) := (by rw [← e10]; exact box_new _ _ _ 2 _ rfl); have g10 : d10.cell? ⟨w.heap.size, 3, none⟩ = some (.int .i64 x_grams) := (by rw [← e10]; exact box_new _ _ _ 3 _ rfl); have f10 : d10.cell? ⟨w.heap.size, 4, none⟩ = some (.int .i64 x_paid) := (by rw [← e10]; exact box_new _ _ _ 4 _ rfl); have j10 : d10.cell? ⟨w.heap.size, 5, none⟩ = some (.int .i64 x_from_) := (by rw [← e10]; exact box_new _ _ _ 5 _ rfl); have i10 : d10.cell? ⟨w.heap.size, 6, none⟩ = some (.int .i64 x_to_) := (by rw [← e10]; exact box_new _ _ _ 6 _ rfl); have l10 : d10.cell? ⟨w.heap.size, 7, none⟩ = some (.int .i64 x_leave) := (by rw [← e10]; exact box_new _ _ _ 7 _ rfl); have m10 : d10.cell? ⟨w.heap.size, 8, none⟩ = some (.int .i64 x_arrive) := (by rw [← e10]; exact box_new _ _ _ 8 _ rfl); replace H := bind_hid H; obtain ⟨t_4, qt_4, H⟩ := H; go_wp2_with fail; go_at_call 40; refine (GsL9Good.C (mails) A0 c0 _   (Lib.hid (Cells.below M0.out w10.out)) N0 qt_4).mono ?_; rintro c12 wt_4 ⟨rfl, bt_4⟩; have s10 := Lib.hid (Below.step w10.out bt_4); replace b10 := cell_below bt_4 b10; replace h10 := cell_below bt_4 h10; replace k10 := cell_below bt_4 k10; replace g10 := cell_below bt_4 g10; replace f10 := cell_below bt_4 f10; replace j10 := cell_below bt_4 j10; replace i10 := cell_below bt_4 i10; replace l10 := cell_below bt_4 l10; replace m10 := cell_below bt_4 m10; clear bt_4
 cases t_4 with
 | false =>
  replace H := let_hid H; obtain ⟨t_5, ht_5, H⟩ := H; obtain rfl : t_5 = true := ht_5.symm; replace H := join_hid H; replace H := ite_t H; replace H := app_hid H; replace H := ite_t H; obtain ⟨p10, n10⟩ : ∃ x, wt_4.alloc (.cells #[] 3) = x := ⟨_, rfl⟩; have a10 : Below wt_4.heap.size wt_4 p10 := (by rw [← n10]; exact (Below.refl _ _).alloc (Nat.le_refl _) _); have r10 : Hid (p10.ownsRow w.heap.size 3 1 (.slice (some ⟨wt_4.heap.size, 0, none⟩) 0 0) 0 []) := Lib.hid (by rw [← n10]; exact own_empty s10.out.size); have c11 := Lib.hid (apart_box b10); have q10 := Lib.hid (Below.step s10.out a10); have j11 := cell_below a10 b10; have x11 := cell_below a10 h10; have k11 := cell_below a10 k10; have l11 := cell_below a10 g10; have h11 := cell_below a10 f10; have a12 := cell_below a10 j10; have n11 := cell_below a10 i10; have b12 := cell_below a10 l10; have p11 := cell_below a10 m10; clear a10; cases ret_hid H; go_wp2_with fail; go_ret2; exact ⟨(some ⟨wt_4.heap.size, 0, none⟩), 0, rfl, r10.out, q10.out⟩
 | true =>
  replace H := let_hid H; obtain ⟨t_5, ht_5, H⟩ := H; obtain rfl : t_5 = false := ht_5.symm; replace H := join_hid H; replace H := ite_f H; replace H := bind_hid H; obtain ⟨t_8, qt_8, H⟩ := H; go_wp2_with fail; go_at_call 41; refine (GsL10One.C ((PCover.Cover.mk x_id x_day x_zone x_grams x_paid x_from_ x_to_ x_leave x_arrive))  _    qt_8).mono ?_; rintro m11 wt_8 ⟨rfl, bt_8⟩; have o10 := Lib.hid (Below.step s10.out bt_8); replace b10 := cell_below bt_8 b10; replace h10 := cell_below bt_8 h10; replace k10 := cell_below bt_8 k10; replace g10 := cell_below bt_8 g10; replace f10 := cell_below bt_8 f10; replace j10 := cell_below bt_8 j10; replace i10 := cell_below bt_8 i10; replace l10 := cell_below bt_8 l10; replace m10 := cell_below bt_8 m10; clear bt_8
  cases t_8 with
  | false =>
   replace H := let_hid H; obtain ⟨t_9, ht_9, H⟩ := H; obtain rfl : t_9 = true := ht_9.symm; replace H := app_hid H; replace H := ite_t H; obtain ⟨p10, n10⟩ : ∃ x, wt_8.alloc (.cells #[] 3) = x := ⟨_, rfl⟩; have a10 : Below wt_8.heap.size wt_8 p10 := (by rw [← n10]; exact (Below.refl _ _).alloc (Nat.le_refl _) _); have r10 : Hid (p10.ownsRow w.heap.size 3 1 (.slice (some ⟨wt_8.heap.size, 0, none⟩) 0 0) 0 []) := Lib.hid (by rw [← n10]; exact own_empty o10.out.size); have c11 := Lib.hid (apart_box b10); have q10 := Lib.hid (Below.step o10.out a10); have o11 := cell_below a10 b10; have y11 := cell_below a10 h10; have r11 := cell_below a10 k10; have i11 := cell_below a10 g10; have t11 := cell_below a10 f10; have v11 := cell_below a10 j10; have e11 := cell_below a10 i10; have z11 := cell_below a10 l10; have w11 := cell_below a10 m10; clear a10; cases ret_hid H; go_wp2_with fail; go_ret2; exact ⟨(some ⟨wt_8.heap.size, 0, none⟩), 0, rfl, r10.out, q10.out⟩
  | true =>
   replace H := let_hid H; obtain ⟨t_9, ht_9, H⟩ := H; obtain rfl : t_9 = false := ht_9.symm; replace H := app_hid H; replace H := ite_f H; replace H := bind2_hid H; obtain ⟨d11, s11, b11, H⟩ := H; go_wp2_with fail; go_at_call 50; refine (GsL10Route.C fuel (mails) ((PCover.Cover.mk x_id x_day x_zone x_grams x_paid x_from_ x_to_ x_leave x_arrive)) A0 c0 _   (Lib.hid (Cells.below M0.out o10.out)) N0 b11).mono ?_; rintro q11 g11 ⟨a11, z10, rfl, t10, c10⟩; have f11 := Lib.hid (apart_callbox t10 b10); have y10 := Lib.hid (own_lower t10 o10.out.size); clear t10; have x10 := Lib.hid (Below.step o10.out c10); replace b10 := cell_below c10 b10; replace h10 := cell_below c10 h10; replace k10 := cell_below c10 k10; replace g10 := cell_below c10 g10; replace f10 := cell_below c10 f10; replace j10 := cell_below c10 j10; replace i10 := cell_below c10 i10; replace l10 := cell_below c10 l10; replace m10 := cell_below c10 m10; clear c10; cases ret_hid H; go_wp2_with fail; go_ret2; exact ⟨a11, z10, rfl, y10.out, x10.out⟩
end Go.Proofs.Ytgbcdmlcmnaimaa.GsRouteOn

namespace Go.Proofs.Ytgbcdmlcmnaimaa.GlVInts
open Go.RowKit
open Go.Proofs.Ytgbcdmlcmnaimaa.Rowed Go.Proofs.Ytgbcdmlcmnaimaa.Turn Go.Proofs.Ytgbcdmlcmnaimaa.Aid Go.Proofs.Ytgbcdmlcmnaimaa.GoP Go.Proofs.Ytgbcdmlcmnaimaa.GoM

def l0 (a : (List Int)) (b : (List Int)) (k0 : Nat) (s : Unit) (nx0 bk0 : Unit → Option (Bool)) : Option (Bool) :=
 
 Option.bind (idx a (k0 : Int)) fun (yt_14 : Int) =>
 Option.bind (idx b (k0 : Int)) fun (yt_18 : Int) =>
 letK (yt_14 != yt_18) fun (t_20 : Bool) =>
 iteK t_20
 (some false)
 (appK nx0 ())

def e0  (s : Unit) : Option (Bool) :=
 
 some true

def P (a : (List Int)) (b : (List Int)) : Option (Bool) :=
 letK ((a.length : Int) != (b.length : Int)) fun (t_5 : Bool) =>
 iteK t_5
 (some false)
 (cntK (l0 a b) (a.length) 0 () (e0 ))

set_option maxRecDepth 100000 in
set_option maxHeartbeats 2000000 in
theorem C (a : (List Int)) (b : (List Int)) (A0 : Option Addr) (c0 : Nat) (A1 : Option Addr) (c1 : Nat)  (w : World) (M0 : Hid (Cells w 1 A0 a.length (HelpInt.iv a))) (N0 : Hid (a.length ≤ 9223372036854775807)) (M1 : Hid (Cells w 1 A1 b.length (HelpInt.iv b))) (N1 : Hid (b.length ≤ 9223372036854775807))  {r : Bool} (H : Hid (P a b = some r)) :
  Calls Try.prog 13 #[.slice A0 a.length c0, .slice A1 b.length c1] w (Gives (.bool r) w) := by
 have HB := Lib.hid (Below.refl w.heap.size w); unfold P at H; have N0o := N0.out; have N1o := N1.out
 go_enter Try.func13, Try.ntmps13
 replace H := let_hid H; obtain ⟨t_5, ht_5, H⟩ := H
 cases t_5 with
 | false =>
  have q10 : Hid (a.length = b.length) := Lib.hid (by have := bne_eq_false_iff_eq.1 ht_5; omega); have k10 : (a.length == b.length) = true := beq_iff_eq.2 q10.out; replace H := ite_f H; go_wp2_with fail; go_loopg [5] (a.length) (fun m_ v5_ wr => ∃ (k0 : Nat) , k0 + m_ = a.length ∧ v5_ = .int .i64 (k0 : Int) ∧ Hid (cntK (l0 a b) m_ k0 () (e0 ) = some r) ∧ Hid (Below w.heap.size w wr))
  case atStart => exact ⟨0, by omega, rfl, H, HB⟩
  case round =>
   obtain ⟨k0, hkm0, rfl, H, c10⟩ := hrel; rename World => wr0
   cases gk with
   | zero =>
    obtain rfl : k0 = a.length := (by omega); have hc0 : decide (((a.length : Nat) : Int) < ((a.length : Nat) : Int)) = false := (by simp); replace H := cnt_zero H; unfold e0 at H; obtain rfl := ret_hid H; go_wp2_with fail; go_ret; exact ⟨rfl, c10.out⟩
   | succ m0 =>
    have hlt0 : k0 < a.length := (by omega); have hc0 : decide ((k0 : Int) < ((a.length : Nat) : Int)) = true := (by simp; omega); replace H := cnt_succ H; unfold l0 at H; go_wp2_with fail; replace H := idx_hid H; obtain ⟨n10, y10, j10, p10, o10, H⟩ := H; obtain rfl : k0 = n10 := (by omega); clear j10; obtain ⟨i11, a11, v10, h10, f10, a10⟩ := HelpInt.Ints.at_ M0.out p10; obtain rfl := Option.some.inj (o10.out.symm.trans f10); subst h10; have f11 := cell_lt a10; replace a10 := cell_below c10.out a10; clear f10; have z10 : (0 : Int) ≤ (k0 : Int) := (by omega); have b11 : (k0 : Int) < ((a.length : Nat) : Int) := (by omega); have k11 : ((k0 : Int)).toNat = k0 := (by omega); have d10 := Lib.hid a10; replace a10 := cell_regrown a10; replace H := idx_hid H; obtain ⟨l10, x10, i10, s10, m10, H⟩ := H; obtain rfl : k0 = l10 := (by omega); clear i10; obtain ⟨g11, t10, h11, r10, g10, b10⟩ := HelpInt.Ints.at_ M1.out s10; obtain rfl := Option.some.inj (m10.out.symm.trans g10); subst r10; have d11 := cell_lt b10; replace b10 := cell_below c10.out b10; clear g10; have c11 : (0 : Int) ≤ (k0 : Int) := (by omega); have w10 : (k0 : Int) < ((b.length : Nat) : Int) := (by omega); have e11 : ((k0 : Int)).toNat = k0 := (by omega); have e10 := Lib.hid b10; replace b10 := cell_regrown b10; replace H := let_hid H; obtain ⟨t_20, j11, H⟩ := H; refine wp_region_quiet_below (by kernel_rfl) (by kernel_rfl) ?_
    repeat (go_big_quiet_step (fail))
    refine wpQuiet_nil ?_; intro Y6 hY6; replace hY6 := below_class hY6; replace a10 := d10.out; clear d10; replace b10 := e10.out; clear e10; have HBY6 := Lib.hid (Below.step c10.out hY6); replace a10 := cell_below hY6 a10; replace b10 := cell_below hY6 b10; clear hY6
    cases t_20 with
    | false =>
     replace H := ite_f H; replace H := app_hid H; go_wp2_with fail
     go_roundg m0
     case measure => omega
     case rel => exact ⟨k0 + 1, by omega, by go_num, H, HBY6⟩
    | true =>
     replace H := ite_t H; obtain rfl := ret_hid H; go_wp2_with fail; go_ret; exact ⟨rfl, HBY6.out⟩
 | true =>
  have k10 : ¬ (a.length = b.length) := (by have := bne_iff_ne.1 ht_5; omega); replace H := ite_t H; obtain rfl := ret_hid H; go_wp2_with fail; go_ret; exact ⟨rfl, HB.out⟩
end Go.Proofs.Ytgbcdmlcmnaimaa.GlVInts

namespace Go.Proofs.Ytgbcdmlcmnaimaa.GiEndOfRoute
open Go.RowKit
open Go.Proofs.Ytgbcdmlcmnaimaa.Rowed Go.Proofs.Ytgbcdmlcmnaimaa.Turn Go.Proofs.Ytgbcdmlcmnaimaa.Aid Go.Proofs.Ytgbcdmlcmnaimaa.GoP Go.Proofs.Ytgbcdmlcmnaimaa.GoM

def l0 (list : (List PMail.Mail)) (route : (List Int)) (k0 : Nat) (s : Int × Int) (nx0 bk0 : Int × Int → Option (Int × Int × Bool)) : Option (Int × Int × Bool) :=
 unp2 s fun office_11l0 end_12l0 =>
 Option.bind (idx route (k0 : Int)) fun (yt_19 : Int) =>
 letK (IntKind.i64.wrap ((list.length : Int) - 1)) fun (t_25 : Int) =>
 Option.bind (GiWithin.P yt_19 0 t_25) fun (t_26 : Bool) =>
 letK (!t_26) fun (t_27 : Bool) =>
 joinK (fun (t_37 : Bool) =>
 iteK t_37
 (some (0, 0, false))
 (Option.bind (idx list yt_19) fun (yt_43 : PMail.Mail) =>
 unMail yt_43 fun (t_43_leave : Int) (t_43_from_ : Int) (t_43_to_ : Int) (t_43_arrive : Int) =>
 Option.bind (idx list yt_19) fun (yt_48 : PMail.Mail) =>
 unMail yt_48 fun (t_48_leave : Int) (t_48_from_ : Int) (t_48_to_ : Int) (t_48_arrive : Int) =>
 appK nx0 (t_43_to_, t_48_arrive))) fun jt_37 => iteK t_27 (appK jt_37 true) (Option.bind (idx list yt_19) fun (yt_31 : PMail.Mail) =>
 unMail yt_31 fun (t_31_leave : Int) (t_31_from_ : Int) (t_31_to_ : Int) (t_31_arrive : Int) =>
 Option.bind (GiCanTake.P (PMail.Mail.mk t_31_leave t_31_from_ t_31_to_ t_31_arrive) office_11l0 end_12l0) fun (t_35 : Bool) =>
 letK (!t_35) fun (t_36 : Bool) =>
 appK jt_37 t_36)

def e0  (s : Int × Int) : Option (Int × Int × Bool) :=
 unp2 s fun office_11l0 end_12l0 =>
 some (office_11l0, end_12l0, true)

def P (list : (List PMail.Mail)) (from_1 : Int) (minute : Int) (route : (List Int)) : Option (Int × Int × Bool) :=
 Option.bind (GiCanBegin.P list from_1 minute) fun (t_6 : Bool) =>
 letK (!t_6) fun (t_7 : Bool) =>
 iteK t_7
 (some (0, 0, false))
 (cntK (l0 list route) (route.length) 0 (from_1, minute) (e0 ))

set_option maxRecDepth 100000 in
set_option maxHeartbeats 2000000 in
theorem C (list : (List PMail.Mail)) (from_1 : Int) (minute : Int) (route : (List Int)) (A0 : Option Addr) (c0 : Nat) (A3 : Option Addr) (c3 : Nat)  (w : World) (M0 : Hid (Cells w 4 A0 list.length (PMail.flat list))) (N0 : Hid (list.length ≤ 9223372036854775807)) (M3 : Hid (Cells w 1 A3 route.length (HelpInt.iv route))) (N3 : Hid (route.length ≤ 9223372036854775807))  {r0 : Int} {r1 : Int} {r2 : Bool} (H : Hid (P list from_1 minute route = some (r0, r1, r2))) :
  Calls Try.prog 14 #[.slice A0 list.length c0, .int .i64 from_1, .int .i64 minute, .slice A3 route.length c3] w (Gives (.tuple #[.int .i64 r0, .int .i64 r1, .bool r2]) w) := by
 have HB := Lib.hid (Below.refl w.heap.size w); unfold P at H; have N0o := N0.out; have N3o := N3.out
 go_enter Try.func14, Try.ntmps14
 replace H := bind_hid H; obtain ⟨t_6, qt_6, H⟩ := H; go_wp2_with fail; go_at_call 51; refine (GiCanBegin.C (list) (from_1) (minute) A0 c0 _   (Lib.hid (Cells.below M0.out HB.out)) N0 qt_6).mono ?_; rintro a12 wt_6 ⟨rfl, bt_6⟩; have t10 := Lib.hid (Below.step HB.out bt_6); clear bt_6
 cases t_6 with
 | false =>
  replace H := let_hid H; obtain ⟨t_7, ht_7, H⟩ := H; obtain rfl : t_7 = true := ht_7.symm; replace H := ite_t H; cases ret_hid H; go_wp2_with fail; go_ret3; exact ⟨rfl, t10.out⟩
 | true =>
  replace H := let_hid H; obtain ⟨t_7, ht_7, H⟩ := H; obtain rfl : t_7 = false := ht_7.symm; replace H := ite_f H; go_wp2_with fail; go_loopg [24, 11, 12] (route.length) (fun m_ v24_ v11_ v12_ wr => ∃ (k0 : Nat) (j10 : Int) (i10 : Int), k0 + m_ = route.length ∧ v24_ = .int .i64 (k0 : Int) ∧ v11_ = .int .i64 j10 ∧ v12_ = .int .i64 i10 ∧ Hid (cntK (l0 list route) m_ k0 (j10, i10) (e0 ) = some (r0, r1, r2)) ∧ Hid (Below w.heap.size w wr))
  case atStart => exact ⟨0, _, _, by omega, rfl, rfl, rfl, H, t10⟩
  case round =>
   obtain ⟨k0, j10, i10, hkm0, rfl, rfl, rfl, H, o10⟩ := hrel; rename World => wr0
   cases gk with
   | zero =>
    obtain rfl : k0 = route.length := (by omega); have hc0 : decide (((route.length : Nat) : Int) < ((route.length : Nat) : Int)) = false := (by simp); replace H := cnt_zero H; unfold e0 at H; replace H := unp2_hid H; cases ret_hid H; go_wp2_with fail; go_ret3; exact ⟨rfl, o10.out⟩
   | succ m0 =>
    have hlt0 : k0 < route.length := (by omega); have hc0 : decide ((k0 : Int) < ((route.length : Nat) : Int)) = true := (by simp; omega); replace H := cnt_succ H; unfold l0 at H; replace H := unp2_hid H; replace H := idx_hid H; obtain ⟨t11, k11, v11, m11, x11, H⟩ := H; obtain rfl : k0 = t11 := (by omega); clear v11; obtain ⟨d12, c12, i12, j11, s10, a10⟩ := HelpInt.Ints.at_ M3.out m11; obtain rfl := Option.some.inj (x11.out.symm.trans s10); subst j11; have t12 := cell_lt a10; replace a10 := cell_below o10.out a10; clear s10; have j12 : (0 : Int) ≤ (k0 : Int) := (by omega); have g12 : (k0 : Int) < ((route.length : Nat) : Int) := (by omega); have l12 : ((k0 : Int)).toNat = k0 := (by omega); replace H := let_hid H; obtain ⟨t_25, q11, H⟩ := H
    try have s11 : (list.length : Int) - 1 = t_25 := by rw [← q11]; exact (IntWalk.i64_in _ (by omega)).symm
    try have r12 : IntKind.i64.wrap t_25 = t_25 := by rw [← s11]; exact IntWalk.i64_in _ (by omega)
    replace H := bind_hid H; obtain ⟨t_26, b11, H⟩ := H; go_wp2_with fail; go_at_call 52; refine (GiWithin.C (k11) (0) (t_25)  _    b11).mono ?_; rintro b12 e12 ⟨rfl, l10⟩; have g10 := Lib.hid (Below.step o10.out l10); replace a10 := cell_below l10 a10; clear l10
    cases t_26 with
    | false =>
     replace H := let_hid H; obtain ⟨t_27, m10, H⟩ := H; obtain rfl : t_27 = true := m10.symm; replace H := join_hid H; replace H := ite_t H; replace H := app_hid H; replace H := ite_t H; cases ret_hid H; go_wp2_with fail; go_ret3; exact ⟨rfl, g10.out⟩
    | true =>
     replace H := let_hid H; obtain ⟨t_27, m10, H⟩ := H; obtain rfl : t_27 = false := m10.symm; replace H := join_hid H; replace H := ite_f H; replace H := idx_hid H; obtain ⟨h10, z11, w11, o11, n10, H⟩ := H; subst w11; obtain ⟨i11, y11, d11, h11⟩ := z11; replace H := unMail_hid H; obtain ⟨s12, n12, o12, e11, r10, b10, c10, d10, e10⟩ := OMail.at_ M0.out o11; obtain rfl := Option.some.inj (n10.out.symm.trans r10); subst e11; have h12 := cell_lt b10; replace b10 := cell_below g10.out b10; replace c10 := cell_below g10.out c10; replace d10 := cell_below g10.out d10; replace e10 := cell_below g10.out e10; clear r10; have p12 : (0 : Int) ≤ (h10 : Int) := (by omega); have f12 : (h10 : Int) < ((list.length : Nat) : Int) := (by omega); have q12 : ((h10 : Int)).toNat = h10 := (by omega); replace H := bind_hid H; obtain ⟨t_35, g11, H⟩ := H; go_wp2_with fail; go_at_call 53; refine (GiCanTake.C ((PMail.Mail.mk i11 y11 d11 h11)) (j10) (i10)  _    g11).mono ?_; rintro k12 m12 ⟨rfl, f10⟩; have v10 := Lib.hid (Below.step g10.out f10); replace a10 := cell_below f10 a10; replace b10 := cell_below f10 b10; replace c10 := cell_below f10 c10; replace d10 := cell_below f10 d10; replace e10 := cell_below f10 e10; clear f10
     cases t_35 with
     | false =>
      replace H := let_hid H; obtain ⟨t_36, k10, H⟩ := H; obtain rfl : t_36 = true := k10.symm; replace H := app_hid H; replace H := ite_t H; cases ret_hid H; go_wp2_with fail; go_ret3; exact ⟨rfl, v10.out⟩
     | true =>
      replace H := let_hid H; obtain ⟨t_36, k10, H⟩ := H; obtain rfl : t_36 = false := k10.symm; replace H := app_hid H; replace H := ite_f H; go_wp2_with fail; have y10 := Lib.hid a10; replace a10 := cell_regrown a10; have q10 := Lib.hid b10; replace b10 := cell_regrown b10; have p10 := Lib.hid c10; replace c10 := cell_regrown c10; have z10 := Lib.hid d10; replace d10 := cell_regrown d10; have x10 := Lib.hid e10; replace e10 := cell_regrown e10; replace H := idx_hid H; obtain ⟨r11, w12, p11, l11, w10, H⟩ := H; obtain rfl : h10 = r11 := (by omega); clear p11; obtain rfl := Option.some.inj (n10.out.symm.trans w10.out); clear w10 l11; replace H := unMail_hid H; replace H := idx_hid H; obtain ⟨f11, v12, n11, c11, a11, H⟩ := H; obtain rfl : h10 = f11 := (by omega); clear n11; obtain rfl := Option.some.inj (n10.out.symm.trans a11.out); clear a11 c11; replace H := unMail_hid H; refine wp_region_quiet_below (by kernel_rfl) (by kernel_rfl) ?_
      repeat (go_big_quiet_step (fail))
      refine wpQuiet_nil ?_; intro Y9 hY9; replace hY9 := below_class hY9; replace a10 := y10.out; clear y10; replace b10 := q10.out; clear q10; replace c10 := p10.out; clear p10; replace d10 := z10.out; clear z10; replace e10 := x10.out; clear x10; have HBY9 := Lib.hid (Below.step v10.out hY9); replace a10 := cell_below hY9 a10; replace b10 := cell_below hY9 b10; replace c10 := cell_below hY9 c10; replace d10 := cell_below hY9 d10; replace e10 := cell_below hY9 e10; clear hY9; replace H := app_hid H; go_wp2_with fail
      go_roundg m0
      case measure => omega
      case rel => exact ⟨k0 + 1, _, _, by omega, by go_num, rfl, rfl, H, HBY9⟩
end Go.Proofs.Ytgbcdmlcmnaimaa.GiEndOfRoute

namespace Go.Proofs.Ytgbcdmlcmnaimaa.GsDrawIsCover
open Go.RowKit
open Go.Proofs.Ytgbcdmlcmnaimaa.Rowed Go.Proofs.Ytgbcdmlcmnaimaa.Turn Go.Proofs.Ytgbcdmlcmnaimaa.Aid Go.Proofs.Ytgbcdmlcmnaimaa.GoP Go.Proofs.Ytgbcdmlcmnaimaa.GoM

def P (tapes : List Int → GoC.Tape) (code : (List Int)) : Option (PCover.Cover) :=
 letK (tapes code) fun (t_3 : GoC.Tape) =>
 letK ([1, 50, 999, 0, 1000]) fun (t_7 : (List Int)) =>
 bind2 (GsL1CurAmong.P t_3 t_7) fun (t_8 : Int) (t_8_tp : GoC.Tape) =>
 bind2 (GsL1CurCover.P t_8_tp t_8) fun (t_9 : PCover.Cover) (t_9_tp : GoC.Tape) =>
 unCover t_9 fun (t_9_id : Int) (t_9_day : Int) (t_9_zone : Int) (t_9_grams : Int) (t_9_paid : Int) (t_9_from_ : Int) (t_9_to_ : Int) (t_9_leave : Int) (t_9_arrive : Int) =>
 some (PCover.Cover.mk t_9_id t_9_day t_9_zone t_9_grams t_9_paid t_9_from_ t_9_to_ t_9_leave t_9_arrive)

set_option maxRecDepth 100000 in
set_option maxHeartbeats 2000000 in
theorem C (tapes : List Int → GoC.Tape) (code : (List Int)) (A0 : Option Addr) (c0 : Nat)  (w : World) (HE : Hid (GoC.Tells tapes)) (M0 : Hid (Cells w 1 A0 code.length (GoC.u8s code))) (N0 : Hid (code.length ≤ 9223372036854775807)) (V0 : Hid (∀ z ∈ code, 0 ≤ z ∧ z ≤ 255))  {r : PCover.Cover} (H : Hid (P tapes code = some r)) :
  Calls Try.prog 17 #[.slice A0 code.length c0] w (Gives ((PCover.Cover.val r)) w) := by
 have HB := Lib.hid (Below.refl w.heap.size w); unfold P at H; have N0o := N0.out
 go_enter Try.func17, Try.ntmps17
 obtain ⟨b10, e10⟩ : ∃ x, w.alloc (.cells #[.int .i64 0, .int .i64 0, .int .i64 0, .int .i64 0, .int .i64 0, .int .i64 0, .int .i64 0, .int .i64 0, .int .i64 0] 27) = x := ⟨_, rfl⟩; have d12 : Below w.heap.size w b10 := (by rw [← e10]; exact (Below.refl _ _).alloc (Nat.le_refl _) _); have g11 := Lib.hid (Below.step HB.out d12); clear d12; have c11 : b10.cell? ⟨w.heap.size, 0, none⟩ = some (.int .i64 0) := (by rw [← e10]; exact box_new _ _ _ 0 _ rfl); have g12 : b10.cell? ⟨w.heap.size, 1, none⟩ = some (.int .i64 0) := (by rw [← e10]; exact box_new _ _ _ 1 _ rfl); have p11 : b10.cell? ⟨w.heap.size, 2, none⟩ = some (.int .i64 0) := (by rw [← e10]; exact box_new _ _ _ 2 _ rfl); have i11 : b10.cell? ⟨w.heap.size, 3, none⟩ = some (.int .i64 0) := (by rw [← e10]; exact box_new _ _ _ 3 _ rfl); have w11 : b10.cell? ⟨w.heap.size, 4, none⟩ = some (.int .i64 0) := (by rw [← e10]; exact box_new _ _ _ 4 _ rfl); have a12 : b10.cell? ⟨w.heap.size, 5, none⟩ = some (.int .i64 0) := (by rw [← e10]; exact box_new _ _ _ 5 _ rfl); have n11 : b10.cell? ⟨w.heap.size, 6, none⟩ = some (.int .i64 0) := (by rw [← e10]; exact box_new _ _ _ 6 _ rfl); have f12 : b10.cell? ⟨w.heap.size, 7, none⟩ = some (.int .i64 0) := (by rw [← e10]; exact box_new _ _ _ 7 _ rfl); have c12 : b10.cell? ⟨w.heap.size, 8, none⟩ = some (.int .i64 0) := (by rw [← e10]; exact box_new _ _ _ 8 _ rfl); have Ot_0 : Hid (b10.ownsRow w.heap.size 27 9 (.slice (some ⟨w.heap.size, 0, none⟩) 1 1) 1 [.int .i64 0, .int .i64 0, .int .i64 0, .int .i64 0, .int .i64 0, .int .i64 0, .int .i64 0, .int .i64 0, .int .i64 0]) := Lib.hid (by rw [← e10]; exact own_laid (n := 1) HB.out.size rfl rfl (by unfold maxLen; omega)); replace H := let_hid H; obtain ⟨t_3, ht_3, H⟩ := H; obtain ⟨g10, j11⟩ : ∃ x, b10.alloc (.cells #[.slice A0 code.length c0, .int .i64 0, .int .u64 0] 60) = x := ⟨_, rfl⟩; have d10 : Below b10.heap.size b10 g10 := (by rw [← j11]; exact (Below.refl _ _).alloc (Nat.le_refl _) _); have Kt_3 : Hid (GoC.CurIs g10 w.heap.size b10.heap.size A0 c0 t_3) := Lib.hid (by rw [← j11, ← ht_3]; exact GoC.cur_new g11.out.size (Cells.below M0.out g11.out) (fun a_ ha_ h0_ => by subst ha_; exact GoC.cells_lt M0.out (by unfold GoC.u8s; rw [List.length_map]; exact h0_)) (HE.out.2.2 code V0.out N0.out)); have w12 := Lib.hid ht_3; clear ht_3; have a10 := Lib.hid (apart_box c11); have s11 := Lib.hid (Below.step g11.out d10); have f11 := cell_below d10 c11; have q11 := cell_below d10 g12; have x11 := cell_below d10 p11; have m11 := cell_below d10 i11; have y11 := cell_below d10 w11; have h12 := cell_below d10 a12; have r11 := cell_below d10 n11; have t11 := cell_below d10 f12; have v11 := cell_below d10 c12; replace Ot_0 := Lib.hid (own_below Ot_0.out d10); clear d10; replace H := let_hid H; obtain ⟨t_7, ht_7, H⟩ := H; obtain ⟨d11, z11⟩ : ∃ x, g10.alloc (.cells #[.int .i64 1, .int .i64 50, .int .i64 999, .int .i64 0, .int .i64 1000] 3) = x := ⟨_, rfl⟩; have c10 : Below g10.heap.size g10 d11 := (by rw [← z11]; exact (Below.refl _ _).alloc (Nat.le_refl _) _); have b12 := s11.out.size; have nt_7 : t_7.length = 5 := (by rw [← ht_7]; rfl)
 have Ot_7 : Hid (d11.ownsRow w.heap.size 3 1 (.slice (some ⟨g10.heap.size, 0, none⟩) 5 5) 5 (HelpInt.iv t_7)) := by
  rw [← z11, ← ht_7]; have e_ : ([.int .i64 1, .int .i64 50, .int .i64 999, .int .i64 0, .int .i64 1000] : List Value) = (HelpInt.iv ([1, 50, 999, 0, 1000] : List Int)) := rfl; exact Lib.hid (own_laid (n := 5) b12 e_ rfl (by unfold maxLen; omega))
 clear b12; have g13 := Lib.hid ht_7; clear ht_7; replace nt_7 := Lib.hid nt_7; have h11 := Lib.hid (GoC.apart_cur Kt_3.out); have m12 := Lib.hid (apart_box f11); have l11 := Lib.hid (Below.step s11.out c10); have w10 := cell_below c10 f11; have b11 := cell_below c10 q11; have v10 := cell_below c10 x11; have a11 := cell_below c10 m11; have t10 := cell_below c10 y11; have s10 := cell_below c10 h12; have y10 := cell_below c10 r11; have x10 := cell_below c10 t11; have r10 := cell_below c10 v11; replace Kt_3 := Lib.hid (GoC.cur_below Kt_3.out c10); replace Ot_0 := Lib.hid (own_below Ot_0.out c10); clear c10; replace H := bind2_hid H; obtain ⟨t_8, r12, qt_8, H⟩ := H; go_wp2_with fail; clear c11 g12 p11 i11 w11 a12 n11 f12 c12 f11 q11 x11 m11 y11 h12 r11 t11 v11; have hc_ := nt_7.out; have hv_ : (Value.slice (some ⟨g10.heap.size, 0, none⟩) 5 5 : Value) = Value.slice (some ⟨g10.heap.size, 0, none⟩) t_7.length 5 := (by rw [hc_])
 try rw [hv_]
 replace Ot_7 := Lib.hid (own_len hc_ Ot_7.out); clear hc_ hv_; go_wp2_with fail; go_at_call 56; refine (GsL1CurAmong.C (t_3) (t_7) (some ⟨g10.heap.size, 0, none⟩) 5 (b10.heap.size) (A0) (c0) (w.heap.size) _   (Lib.hid (own_cells Ot_7.out)) (Lib.hid (own_max Ot_7.out)) Kt_3 (Lib.hid (fun _ => h11.out)) qt_8).mono ?_; rintro x12 wt_8 ⟨rfl, kt_8, gt_8⟩; have Kt_8 := Lib.hid kt_8; have Gt_8 : Hid (d11.grownBy wt_8 (Value.slice (some ⟨b10.heap.size, 0, none⟩) 1 1).ownBlock) := Lib.hid gt_8; clear kt_8 gt_8; have k11 := Lib.hid (GoC.below_cur l11.out Gt_8.out l11.out.size (GoC.cur_lt Kt_3.out).1); replace w10 := cell_other w10 Gt_8.out a10.out; replace b11 := cell_other b11 Gt_8.out a10.out; replace v10 := cell_other v10 Gt_8.out a10.out; replace a11 := cell_other a11 Gt_8.out a10.out; replace t10 := cell_other t10 Gt_8.out a10.out; replace s10 := cell_other s10 Gt_8.out a10.out; replace y10 := cell_other y10 Gt_8.out a10.out; replace x10 := cell_other x10 Gt_8.out a10.out; replace r10 := cell_other r10 Gt_8.out a10.out; replace Ot_0 := Lib.hid (own_other Ot_0.out Gt_8.out a10.out); replace Ot_7 := Lib.hid (own_other Ot_7.out Gt_8.out (Apart.symm h11.out)); clear Kt_3 Gt_8; replace H := bind2_hid H; obtain ⟨t_9, v12, qt_9, H⟩ := H; obtain ⟨m10, n10, q10, l10, j10, k10, o10, p10, i10⟩ := t_9; replace H := unCover_hid H; go_wp2_with fail; go_at_call 36; refine (GsL1CurCover.C (r12) (t_8) (b10.heap.size) (A0) (c0) (w.heap.size) _   Kt_8 qt_9).mono ?_; rintro z12 wt_9 ⟨rfl, kt_9, gt_9⟩; unfold PCover.Cover.val; have Kt_9 := Lib.hid kt_9; have Gt_9 : Hid (wt_8.grownBy wt_9 (Value.slice (some ⟨b10.heap.size, 0, none⟩) 1 1).ownBlock) := Lib.hid gt_9; clear kt_9 gt_9; have e12 := Lib.hid (GoC.below_cur k11.out Gt_9.out k11.out.size (GoC.cur_lt Kt_8.out).1); replace w10 := cell_other w10 Gt_9.out a10.out; replace b11 := cell_other b11 Gt_9.out a10.out; replace v10 := cell_other v10 Gt_9.out a10.out; replace a11 := cell_other a11 Gt_9.out a10.out; replace t10 := cell_other t10 Gt_9.out a10.out; replace s10 := cell_other s10 Gt_9.out a10.out; replace y10 := cell_other y10 Gt_9.out a10.out; replace x10 := cell_other x10 Gt_9.out a10.out; replace r10 := cell_other r10 Gt_9.out a10.out; replace Ot_0 := Lib.hid (own_other Ot_0.out Gt_9.out a10.out); replace Ot_7 := Lib.hid (own_other Ot_7.out Gt_9.out (Apart.symm h11.out)); clear Kt_8 Gt_9; obtain ⟨f10, o11⟩ : ∃ x, (((((((((wt_9).setCell ⟨w.heap.size, 0, none⟩ (.int .i64 m10)).setCell ⟨w.heap.size, 1, none⟩ (.int .i64 n10)).setCell ⟨w.heap.size, 2, none⟩ (.int .i64 q10)).setCell ⟨w.heap.size, 3, none⟩ (.int .i64 l10)).setCell ⟨w.heap.size, 4, none⟩ (.int .i64 j10)).setCell ⟨w.heap.size, 5, none⟩ (.int .i64 k10)).setCell ⟨w.heap.size, 6, none⟩ (.int .i64 o10)).setCell ⟨w.heap.size, 7, none⟩ (.int .i64 p10)).setCell ⟨w.heap.size, 8, none⟩ (.int .i64 i10) = x := ⟨_, rfl⟩; have f13 := Ot_0.out.frozenAt 0; have e13 := Ot_0.out.frozenAt 1; have d13 := Ot_0.out.frozenAt 2; have y12 := Ot_0.out.frozenAt 3; have b13 := Ot_0.out.frozenAt 4; have h13 := Ot_0.out.frozenAt 5; have i13 := Ot_0.out.frozenAt 6; have a13 := Ot_0.out.frozenAt 7; have c13 := Ot_0.out.frozenAt 8; have e11 := Lib.hid (own_stores [(0, .int .i64 m10), (1, .int .i64 n10), (2, .int .i64 q10), (3, .int .i64 l10), (4, .int .i64 j10), (5, .int .i64 k10), (6, .int .i64 o10), (7, .int .i64 p10), (8, .int .i64 i10)] Ot_0.out); have h10 : Hid (f10.ownsRow w.heap.size 27 9 (.slice (some ⟨w.heap.size, 0, none⟩) 1 1) 1 [.int .i64 m10, .int .i64 n10, .int .i64 q10, .int .i64 l10, .int .i64 j10, .int .i64 k10, .int .i64 o10, .int .i64 p10, .int .i64 i10]) := Lib.hid (by rw [← o11]; exact e11.out.1); have z10 : Hid (wt_9.grownBy f10 (Value.slice (some ⟨w.heap.size, 0, none⟩) 1 1).ownBlock) := Lib.hid (by rw [← o11]; exact e11.out.2); have t12 := Lib.hid (e12.out.grown z10.out e12.out.size (fun q hq => (Ot_0.out.lt q hq).1)); clear e11; replace Ot_7 := Lib.hid (own_other Ot_7.out z10.out (Apart.symm m12.out))
 replace Kt_9 := Lib.hid (GoC.cur_other Kt_9.out z10.out (Apart.symm a10.out) (GoC.own_ge Ot_0.out)); clear Ot_0 z10; have n12 : f10.cell? ⟨w.heap.size, 0, none⟩ = some (.int .i64 m10) := h10.out.cells rfl 0 _ rfl; have p12 : f10.cell? ⟨w.heap.size, 1, none⟩ = some (.int .i64 n10) := h10.out.cells rfl 1 _ rfl; have s12 : f10.cell? ⟨w.heap.size, 2, none⟩ = some (.int .i64 q10) := h10.out.cells rfl 2 _ rfl; have j12 : f10.cell? ⟨w.heap.size, 3, none⟩ = some (.int .i64 l10) := h10.out.cells rfl 3 _ rfl; have q12 : f10.cell? ⟨w.heap.size, 4, none⟩ = some (.int .i64 j10) := h10.out.cells rfl 4 _ rfl; have l12 : f10.cell? ⟨w.heap.size, 5, none⟩ = some (.int .i64 k10) := h10.out.cells rfl 5 _ rfl; have k12 : f10.cell? ⟨w.heap.size, 6, none⟩ = some (.int .i64 o10) := h10.out.cells rfl 6 _ rfl; have o12 : f10.cell? ⟨w.heap.size, 7, none⟩ = some (.int .i64 p10) := h10.out.cells rfl 7 _ rfl; have i12 : f10.cell? ⟨w.heap.size, 8, none⟩ = some (.int .i64 i10) := h10.out.cells rfl 8 _ rfl; cases ret_hid H; go_wp2_with fail
 (try simp only [Exit.inBlock, Exit.then])
 refine bodyPost_ret (v := .agg #[.int .i64 m10, .int .i64 n10, .int .i64 q10, .int .i64 l10, .int .i64 j10, .int .i64 k10, .int .i64 o10, .int .i64 p10, .int .i64 i10]) ?hr_ ?hd_ ?_
 case hd_ => rfl
 case hr_ => simp [results, Try.results17, n12, p12, s12, j12, q12, l12, k12, o12, i12, go_sem]
 exact ⟨rfl, t12.out⟩
end Go.Proofs.Ytgbcdmlcmnaimaa.GsDrawIsCover

namespace Go.Proofs.Ytgbcdmlcmnaimaa.GsDrawFaultText
open Go.RowKit
open Go.Proofs.Ytgbcdmlcmnaimaa.Rowed Go.Proofs.Ytgbcdmlcmnaimaa.Turn Go.Proofs.Ytgbcdmlcmnaimaa.Aid Go.Proofs.Ytgbcdmlcmnaimaa.GoP Go.Proofs.Ytgbcdmlcmnaimaa.GoM

def P (tapes : List Int → GoC.Tape) (code : (List Int)) : Option (Int) :=
 letK (tapes code) fun (t_3 : GoC.Tape) =>
 bind2 (GsL1CurPick.P t_3 7) fun (t_6 : Int) (t_6_tp : GoC.Tape) =>
 bind2 (GsL1CurPick.P t_6_tp 9) fun (t_8 : Int) (t_8_tp : GoC.Tape) =>
 letK (IntKind.i64.wrap (Int.tdiv t_8 8)) fun (t_9 : Int) =>
 letK (IntKind.i64.wrap (t_6 - t_9)) fun (t_10 : Int) =>
 some t_10

set_option maxRecDepth 100000 in
set_option maxHeartbeats 2000000 in
theorem C (tapes : List Int → GoC.Tape) (code : (List Int)) (A0 : Option Addr) (c0 : Nat)  (w : World) (HE : Hid (GoC.Tells tapes)) (M0 : Hid (Cells w 1 A0 code.length (GoC.u8s code))) (N0 : Hid (code.length ≤ 9223372036854775807)) (V0 : Hid (∀ z ∈ code, 0 ≤ z ∧ z ≤ 255))  {r : Int} (H : Hid (P tapes code = some r)) :
  Calls Try.prog 20 #[.slice A0 code.length c0] w (Gives (.int .i64 r) w) := by
 have HB := Lib.hid (Below.refl w.heap.size w); unfold P at H; have N0o := N0.out
 go_enter Try.func20, Try.ntmps20
 replace H := let_hid H; obtain ⟨t_3, ht_3, H⟩ := H; obtain ⟨a10, e10⟩ : ∃ x, w.alloc (.cells #[.slice A0 code.length c0, .int .i64 0, .int .u64 0] 60) = x := ⟨_, rfl⟩; have b10 : Below w.heap.size w a10 := (by rw [← e10]; exact (Below.refl _ _).alloc (Nat.le_refl _) _); have Kt_3 : Hid (GoC.CurIs a10 w.heap.size w.heap.size A0 c0 t_3) := Lib.hid (by rw [← e10, ← ht_3]; exact GoC.cur_new HB.out.size (Cells.below M0.out HB.out) (fun a_ ha_ h0_ => by subst ha_; exact GoC.cells_lt M0.out (by unfold GoC.u8s; rw [List.length_map]; exact h0_)) (HE.out.2.2 code V0.out N0.out)); have i10 := Lib.hid ht_3; clear ht_3; have c10 := Lib.hid (Below.step HB.out b10); clear b10; replace H := bind2_hid H; obtain ⟨t_6, f10, qt_6, H⟩ := H; go_wp2_with fail; go_at_call 63; refine (GsL1CurPick.C (t_3) (7) (w.heap.size) (A0) (c0) (w.heap.size) _   Kt_3 qt_6).mono ?_; rintro l10 wt_6 ⟨rfl, kt_6, gt_6⟩; have Kt_6 := Lib.hid kt_6; have Gt_6 : Hid (a10.grownBy wt_6 (Value.slice (some ⟨w.heap.size, 0, none⟩) 1 1).ownBlock) := Lib.hid gt_6; clear kt_6 gt_6; have d10 := Lib.hid (GoC.below_cur c10.out Gt_6.out c10.out.size (GoC.cur_lt Kt_3.out).1); clear Kt_3 Gt_6; replace H := bind2_hid H; obtain ⟨t_8, k10, qt_8, H⟩ := H; go_wp2_with fail; go_at_call 63; refine (GsL1CurPick.C (f10) (9) (w.heap.size) (A0) (c0) (w.heap.size) _   Kt_6 qt_8).mono ?_; rintro j10 wt_8 ⟨rfl, kt_8, gt_8⟩; have Kt_8 := Lib.hid kt_8; have Gt_8 : Hid (wt_6.grownBy wt_8 (Value.slice (some ⟨w.heap.size, 0, none⟩) 1 1).ownBlock) := Lib.hid gt_8; clear kt_8 gt_8; have g10 := Lib.hid (GoC.below_cur d10.out Gt_8.out d10.out.size (GoC.cur_lt Kt_6.out).1); clear Kt_6 Gt_8; replace H := let_hid H; obtain ⟨t_9, ht_9, H⟩ := H; replace H := let_hid H; obtain ⟨t_10, h10, H⟩ := H; obtain rfl := ret_hid H; go_wp2_with fail; go_ret; exact ⟨rfl, g10.out⟩
end Go.Proofs.Ytgbcdmlcmnaimaa.GsDrawFaultText

namespace Go.Proofs.Ytgbcdmlcmnaimaa.PlainStamp

/-- a number lies in a..b -/
def inB (x a b : Int) : Bool := decide (a ≤ x ∧ x ≤ b)
theorem inB_yes {x a b : Int} (h1 : a ≤ x) (h2 : x ≤ b) : inB x a b = true := by unfold inB; exact decide_eq_true ⟨h1, h2⟩
theorem inB_of {x a b : Int} (h : inB x a b = true) : a ≤ x ∧ x ≤ b := by unfold inB at h; exact of_decide_eq_true h
theorem inB_no {x a b : Int} (h : x < a ∨ b < x) : inB x a b = false := by unfold inB; exact decide_eq_false (by omega)

structure St where
  id : Int
  face : Int
  color : Int
  year : Int
deriving DecidableEq

def St.cells (s : St) : List Value := [.int .i64 s.id, .int .i64 s.face, .int .i64 s.color, .int .i64 s.year]
def St.val (s : St) : Value := .agg #[.int .i64 s.id, .int .i64 s.face, .int .i64 s.color, .int .i64 s.year]
/-- each field fits an int -/
def St.fits (s : St) : Prop := (Lit.int .i64 s.id).wf = true ∧ (Lit.int .i64 s.face).wf = true ∧ (Lit.int .i64 s.color).wf = true ∧ (Lit.int .i64 s.year).wf = true

def okSt (s : St) : Bool := inB s.id 1 999 && inB s.face 0 9999 && inB s.color 0 99 && inB s.year 1840 2100
theorem okSt_yes {s : St} (h : okSt s = true) : (1 ≤ s.id ∧ s.id ≤ 999) ∧ (0 ≤ s.face ∧ s.face ≤ 9999) ∧ (0 ≤ s.color ∧ s.color ≤ 99) ∧ (1840 ≤ s.year ∧ s.year ≤ 2100) := by
  unfold okSt at h
  simp only [Bool.and_eq_true] at h
  exact ⟨inB_of h.1.1.1, inB_of h.1.1.2, inB_of h.1.2, inB_of h.2⟩

/-- the stamp at k is valid, and its id is above the one ahead of it -/
def okAt (l : List St) (k : Nat) : Bool :=
  match l[k]? with
  | none => true
  | some s => okSt s && (decide (k = 0) || (match l[k-1]? with | none => true | some r => decide (r.id < s.id)))
def okUp (l : List St) (k : Nat) : Bool := (List.range k).all (okAt l)
theorem okUp_zero (l : List St) : okUp l 0 = true := by simp [okUp]
theorem okUp_succ (l : List St) (k : Nat) : okUp l (k + 1) = (okUp l k && okAt l k) := by simp [okUp, List.range_succ, List.all_append]
theorem okUp_not {l : List St} {k n : Nat} (h : okAt l k = false) (hk : k < n) : okUp l n = false := by
  unfold okUp
  rw [Bool.eq_false_iff]
  intro hall
  have := List.all_eq_true.1 hall k (List.mem_range.2 hk)
  rw [h] at this; exact absurd this (by simp)
/-- a list of at most twelve valid stamps with rising ids -/
def okSts (l : List St) : Bool := decide (l.length ≤ 12) && okUp l l.length
theorem okAt_of {l : List St} {k : Nat} {s : St} (hs : l[k]? = some s) (h : okAt l k = true) : okSt s = true ∧ ∀ r, 0 < k → l[k-1]? = some r → r.id < s.id := by
  unfold okAt at h
  rw [hs] at h
  simp only [Bool.and_eq_true, Bool.or_eq_true, decide_eq_true_eq] at h
  refine ⟨h.1, fun r hk hr => ?_⟩
  rcases h.2 with h0 | h0
  · omega
  · rw [hr] at h0; simpa using h0
theorem okSts_len {l : List St} (h : okSts l = true) : l.length ≤ 12 := by unfold okSts at h; simp only [Bool.and_eq_true, decide_eq_true_eq] at h; exact h.1
theorem okSts_at {l : List St} (h : okSts l = true) {k : Nat} {s : St} (hs : l[k]? = some s) : okSt s = true ∧ ∀ r, 0 < k → l[k-1]? = some r → r.id < s.id := by
  unfold okSts at h
  simp only [Bool.and_eq_true, decide_eq_true_eq] at h
  exact okAt_of hs (List.all_eq_true.1 h.2 k (List.mem_range.2 (List.getElem?_eq_some_iff.1 hs).1))
theorem okSts_mem {l : List St} (h : okSts l = true) {s : St} (hs : s ∈ l) : okSt s = true := by
  obtain ⟨k, hk⟩ := List.getElem?_of_mem hs
  exact (okSts_at h hk).1

/-- the cells of a list of stamps, one after the other -/
def flat (l : List St) : List Value := l.flatMap St.cells
theorem flat_nil : flat [] = [] := rfl
theorem flat_cons (s : St) (l : List St) : flat (s :: l) = s.cells ++ flat l := by simp [flat]
theorem flat_len (l : List St) : (flat l).length = l.length * 4 := by
  induction l with
  | nil => rfl
  | cons s l ih => rw [flat_cons, List.length_append, ih]; simp [St.cells]; omega
theorem flat_at : ∀ (l : List St) (k : Nat) (s : St), l[k]? = some s → ∀ j, j < 4 → (flat l)[k * 4 + j]? = s.cells[j]?
  | [], k, s, h, _, _ => by simp at h
  | r :: l, 0, s, h, j, hj => by
    obtain rfl : r = s := by simpa using h
    rw [flat_cons, List.getElem?_append_left (by simp [St.cells]; omega)]; simp
  | r :: l, k + 1, s, h, j, hj => by
    rw [flat_cons, List.getElem?_append_right (by simp [St.cells]; omega), show (k + 1) * 4 + j - r.cells.length = k * 4 + j by simp [St.cells]; omega]
    exact flat_at l k s (by simpa using h) j hj
end Go.Proofs.Ytgbcdmlcmnaimaa.PlainStamp

namespace Go.Proofs.Ytgbcdmlcmnaimaa.QBase
open Go.RowKit
open Go.Proofs.Ytgbcdmlcmnaimaa.GoP Go.Proofs.Ytgbcdmlcmnaimaa.PlainStamp

theorem iteK_if {ρ : Type} (c : Bool) (a b : Option ρ) : iteK c a b = if c = true then a else b := by cases c <;> rfl
theorem bind2_some {α β ρ : Type} (a : α) (b : β) (f : α → β → Option ρ) : bind2 (some (a, b)) f = f a b := rfl
theorem bind3_some {α β γ ρ : Type} (a : α) (b : β) (c : γ) (f : α → β → γ → Option ρ) : bind3 (some (a, b, c)) f = f a b c := rfl
theorem unp2_mk {α β ρ : Type} (a : α) (b : β) (f : α → β → Option ρ) : unp2 (a, b) f = f a b := rfl
theorem unp3_mk {α β γ ρ : Type} (a : α) (b : β) (c : γ) (f : α → β → γ → Option ρ) : unp3 (a, b, c) f = f a b c := rfl
theorem guardK_pos {ρ : Type} {p : Prop} [Decidable p] {a : Option ρ} (h : p) : guardK p a = a := if_pos h
theorem cut2 {α β : Type} {x : Option (α × β)} {p : α × β} (h : x = some p) : x = some (p.1, p.2) := h
theorem cut3 {α β γ : Type} {x : Option (α × β × γ)} {p : α × β × γ} (h : x = some p) : x = some (p.1, p.2.1, p.2.2) := h
theorem within_eq (n a b : Int) : GiWithin.P n a b = some (inB n a b) := by
  simp only [GiWithin.P, letK, joinK, appK, iteK_if, inB]
  by_cases h1 : a ≤ n <;> by_cases h2 : n ≤ b <;> simp [h1, h2]
theorem l1In_eq (n a b : Int) : GsL1In.P n a b = some (inB n a b) := by
  simp only [GsL1In.P, letK, joinK, appK, iteK_if, inB]
  by_cases h1 : a ≤ n <;> by_cases h2 : n ≤ b <;> simp [h1, h2]
end Go.Proofs.Ytgbcdmlcmnaimaa.QBase

namespace Go.Proofs.Ytgbcdmlcmnaimaa.QLoop
open Go.RowKit
open Go.Proofs.Ytgbcdmlcmnaimaa.GoP Go.Proofs.Ytgbcdmlcmnaimaa.QBase

theorem cnt_ex {σ ρ : Type} {f : Nat → σ → (σ → Option ρ) → (σ → Option ρ) → Option ρ} {fin : σ → Option ρ} {Q : ρ → Prop} {n : Nat} (I : Nat → σ → Prop)
    (step : ∀ k s nx, k < n → I k s → (∀ s', I (k + 1) s' → ∃ r, nx s' = some r ∧ Q r) → ∃ r, f k s nx fin = some r ∧ Q r) (done : ∀ s, I n s → ∃ r, fin s = some r ∧ Q r) :
    ∀ m k s, k + m = n → I k s → ∃ r, cntK f m k s fin = some r ∧ Q r := by
  intro m
  induction m with
  | zero => intro k s hk hI; obtain rfl : k = n := by omega
            exact done s hI
  | succ m ih => intro k s hk hI; exact step k s _ (by omega) hI (fun s' h' => ih (k + 1) s' (by omega) h')
theorem cnt_is {σ ρ : Type} {f : Nat → σ → (σ → Option ρ) → (σ → Option ρ) → Option ρ} {fin : σ → Option ρ} {n : Nat} (r : ρ) (I : Nat → σ → Prop)
    (step : ∀ k s nx, k < n → I k s → (∀ s', I (k + 1) s' → nx s' = some r) → f k s nx fin = some r) (done : ∀ s, I n s → fin s = some r) (s : σ) (h0 : I 0 s) : cntK f n 0 s fin = some r := by
  obtain ⟨r', h, rfl⟩ := cnt_ex (Q := fun x => x = r) I (fun k s nx hk hI hn => ⟨r, step k s nx hk hI (fun s' h' => by obtain ⟨_, h, rfl⟩ := hn s' h'; exact h), rfl⟩) (fun s h => ⟨r, done s h, rfl⟩) n 0 s (by omega) h0
  exact h
theorem at_lt {α : Type} {l : List α} {k : Nat} (h : k < l.length) : ∃ x, l[k]? = some x ∧ idx l (k : Int) = some x := ⟨l[k], List.getElem?_eq_getElem h, by rw [idx_nat, List.getElem?_eq_getElem h]⟩
theorem idx_pred {α : Type} {l : List α} {k : Nat} {x : α} (hk : 0 < k) (hb : k ≤ 9223372036854775807) (h : l[k - 1]? = some x) : idx l (IntKind.i64.wrap ((k : Int) - 1)) = some x := by
  rw [IntWalk.i64_in _ (by omega), show ((k : Int) - 1) = ((k - 1 : Nat) : Int) by omega, idx_nat, h]
theorem take_next {α : Type} {l : List α} {k : Nat} {x : α} (h : l[k]? = some x) : l.take (k + 1) = l.take k ++ [x] := by
  obtain ⟨hk, e⟩ := List.getElem?_eq_some_iff.1 h
  rw [List.take_succ_eq_append_getElem hk, e]
theorem all_next {α : Type} {p : α → Bool} {l : List α} {k : Nat} {x : α} (h : l[k]? = some x) : (l.take (k + 1)).all p = ((l.take k).all p && p x) := by
  rw [take_next h]; simp
theorem not_all {α : Type} {p : α → Bool} {l : List α} {k : Nat} {x : α} (h : l[k]? = some x) (hp : p x = false) : l.all p = false := by
  rw [Bool.eq_false_iff]
  intro ha
  have := List.all_eq_true.1 ha x (List.mem_of_getElem? h)
  rw [hp] at this; exact absurd this (by simp)
theorem wrap_in {x : Int} (h1 : -9223372036854775808 ≤ x) (h2 : x ≤ 9223372036854775807) : IntKind.i64.wrap x = x := IntWalk.i64_in _ (by omega)

/-- valid, and above the one ahead of it -/
def upAt {α : Type} (ok : α → Bool) (id : α → Int) (l : List α) (k : Nat) : Bool :=
  match l[k]? with
  | none => true
  | some s => ok s && (decide (k = 0) || (match l[k-1]? with | none => true | some r => decide (id r < id s)))
def upTo {α : Type} (ok : α → Bool) (id : α → Int) (l : List α) (k : Nat) : Bool := (List.range k).all (upAt ok id l)
theorem upTo_zero {α : Type} (ok : α → Bool) (id : α → Int) (l : List α) : upTo ok id l 0 = true := rfl
theorem upTo_succ {α : Type} (ok : α → Bool) (id : α → Int) (l : List α) (k : Nat) : upTo ok id l (k + 1) = (upTo ok id l k && upAt ok id l k) := by simp [upTo, List.range_succ, List.all_append]
theorem upTo_not {α : Type} {ok : α → Bool} {id : α → Int} {l : List α} {k n : Nat} (h : upAt ok id l k = false) (hk : k < n) : upTo ok id l n = false := by
  unfold upTo
  rw [Bool.eq_false_iff]
  intro ha
  have := List.all_eq_true.1 ha k (List.mem_range.2 hk)
  rw [h] at this; exact absurd this (by simp)
/-- a list of at most m valid records with rising ids -/
def upL {α : Type} (m : Nat) (ok : α → Bool) (id : α → Int) (l : List α) : Bool := decide (l.length ≤ m) && upTo ok id l l.length
theorem upAt_bad {α : Type} {ok : α → Bool} {id : α → Int} {l : List α} {k : Nat} {s : α} (hs : l[k]? = some s) (h : ok s = false) : upAt ok id l k = false := by unfold upAt; rw [hs]; simp [h]
theorem upAt_first {α : Type} {ok : α → Bool} {id : α → Int} {l : List α} {s : α} (hs : l[0]? = some s) (h : ok s = true) : upAt ok id l 0 = true := by unfold upAt; rw [hs]; simp [h]
theorem upAt_next {α : Type} {ok : α → Bool} {id : α → Int} {l : List α} {k : Nat} {s r : α} (hs : l[k]? = some s) (hr : l[k-1]? = some r) (hk : 0 < k) (h : ok s = true) : upAt ok id l k = decide (id r < id s) := by
  unfold upAt; rw [hs]; simp only [hr, h, Bool.true_and, decide_eq_false (show ¬ k = 0 by omega), Bool.false_or]
theorem upL_len {α : Type} {m : Nat} {ok : α → Bool} {id : α → Int} {l : List α} (h : upL m ok id l = true) : l.length ≤ m := by unfold upL at h; simp only [Bool.and_eq_true, decide_eq_true_eq] at h; exact h.1
theorem upL_ok {α : Type} {m : Nat} {ok : α → Bool} {id : α → Int} {l : List α} (h : upL m ok id l = true) {k : Nat} {s : α} (hs : l[k]? = some s) : ok s = true := by
  unfold upL at h
  simp only [Bool.and_eq_true, decide_eq_true_eq] at h
  have := List.all_eq_true.1 h.2 k (List.mem_range.2 (List.getElem?_eq_some_iff.1 hs).1)
  unfold upAt at this
  rw [hs] at this
  simp only [Bool.and_eq_true] at this
  exact this.1
theorem upL_mem {α : Type} {m : Nat} {ok : α → Bool} {id : α → Int} {l : List α} (h : upL m ok id l = true) {s : α} (hs : s ∈ l) : ok s = true := by
  obtain ⟨k, hk⟩ := List.getElem?_of_mem hs
  exact upL_ok h hk
/-- a loop that goes through a list of records and stops with 'false' at the first that is bad -/
theorem up_loop {α : Type} {ok : α → Bool} {id : α → Int} {l : List α} {R : Type} {no : R} {f : Nat → Unit → (Unit → Option R) → (Unit → Option R) → Option R} {fin : Unit → Option R}
    (step : ∀ k nx s, l[k]? = some s → (ok s = false → f k () nx fin = some no) ∧ (ok s = true → (k = 0 → f k () nx fin = nx ()) ∧ (0 < k → ∀ r, l[k-1]? = some r → (id r < id s → f k () nx fin = nx ()) ∧ (id s ≤ id r → f k () nx fin = some no)))) :
    cntK f l.length 0 () fin = if upTo ok id l l.length then fin () else some no := by
  have key : ∀ m k, k + m = l.length → upTo ok id l k = true → cntK f m k () fin = if upTo ok id l l.length then fin () else some no := by
    intro m
    induction m with
    | zero => intro k hk hu; obtain rfl : k = l.length := by omega
              rw [hu]; rfl
    | succ m ih =>
      intro k hk hu
      have hlt : k < l.length := by omega
      obtain ⟨s, hs, _⟩ := at_lt hlt
      obtain ⟨h1, h2⟩ := step k (fun s' => cntK f m (k + 1) s' fin) s hs
      show f k () _ fin = _
      cases hok : ok s with
      | false => rw [h1 hok, upTo_not (upAt_bad hs hok) hlt]; rfl
      | true =>
        obtain ⟨h3, h4⟩ := h2 hok
        by_cases hk0 : k = 0
        · rw [h3 hk0]
          subst hk0
          exact ih 1 (by omega) (by rw [upTo_succ, hu, upAt_first hs hok]; rfl)
        · obtain ⟨r, hr, _⟩ := at_lt (l := l) (k := k - 1) (by omega)
          obtain ⟨h5, h6⟩ := h4 (by omega) r hr
          by_cases hlt2 : id r < id s
          · rw [h5 hlt2]
            exact ih (k + 1) (by omega) (by rw [upTo_succ, hu, upAt_next hs hr (by omega) hok]; simpa using hlt2)
          · rw [h6 (by omega), upTo_not (by rw [upAt_next hs hr (by omega) hok]; simpa using hlt2) hlt]; rfl
  exact key l.length 0 (by omega) (upTo_zero ok id l)
end Go.Proofs.Ytgbcdmlcmnaimaa.QLoop

namespace Go.Proofs.Ytgbcdmlcmnaimaa.QDraw
open Go.RowKit
open Go.Proofs.Ytgbcdmlcmnaimaa.GoP Go.Proofs.Ytgbcdmlcmnaimaa.PlainStamp Go.Proofs.Ytgbcdmlcmnaimaa.QBase Go.Proofs.Ytgbcdmlcmnaimaa.QLoop

/-- a tape that may be asked m times more -/
def good (t : GoC.Tape) (m : Nat) : Prop := m ≤ t.left ∧ ∀ i, 0 ≤ t.vals i ∧ t.vals i ≤ 255
theorem good_less {t : GoC.Tape} {m n : Nat} (h : good t m) (hn : n ≤ m) : good t n := ⟨Nat.le_trans hn h.1, h.2⟩
theorem good_of {tapes : List Int → GoC.Tape} (h : GoC.Tells tapes) (code : List Int) {m : Nat} (hm : m ≤ 4611686018427387904) : good (tapes code) m := ⟨by rw [h.1]; exact hm, h.2.1 code⟩
theorem next_ok {t : GoC.Tape} {m : Nat} (h : good t (m + 1)) : ∃ b t', GsL1CurNext.P t = some (b, t') ∧ (0 ≤ b ∧ b ≤ 255) ∧ good t' m := by
  unfold GsL1CurNext.P
  rw [if_pos (by have := h.1; omega)]
  exact ⟨_, _, rfl, h.2 0, by have := h.1; show m ≤ t.left - 1; omega, fun i => h.2 (i + 1)⟩
theorem pick_ok {t : GoC.Tape} {m : Nat} {n : Int} (h : good t (m + 2)) : ∃ x t', GsL1CurPick.P t n = some (x, t') ∧ 0 ≤ x ∧ (x < n ∨ n ≤ 1 ∧ x = 0) ∧ x ≤ 65535 ∧ good t' m := by
  simp only [GsL1CurPick.P, letK, iteK_if]
  by_cases hn : n ≤ 1
  · rw [if_pos (by simpa using hn)]
    exact ⟨0, t, rfl, by omega, by omega, by omega, good_less h (by omega)⟩
  · rw [if_neg (by simpa using hn)]
    obtain ⟨b, t1, e1, hb, h1⟩ := next_ok (m := m + 1) h
    rw [e1]
    simp only [bind2_some]
    by_cases h2 : 200 < n
    · rw [if_pos (by simpa using h2)]
      obtain ⟨b2, t2, e2, hb2, h3⟩ := next_ok (m := m) h1
      rw [e2]
      simp only [bind2_some, GsL1CurPick.j0, unp2, letK]
      rw [guardK_pos (by omega), wrap_in (x := b * 256) (by omega) (by omega), wrap_in (by omega) (by omega), Int.tmod_eq_emod_of_nonneg (by omega)]
      have k1 := Int.emod_nonneg (b * 256 + b2) (show n ≠ 0 by omega)
      have k2 := Int.emod_lt_of_pos (b * 256 + b2) (show 0 < n by omega)
      have k3 : (b * 256 + b2) % n ≤ 65535 := by
        by_cases hq : n ≤ 65536
        · omega
        · rw [Int.emod_eq_of_lt (by omega) (by omega)]; omega
      exact ⟨_, _, rfl, k1, .inl k2, by omega, h3⟩
    · rw [if_neg (by simpa using h2)]
      simp only [GsL1CurPick.j0, unp2, letK]
      rw [guardK_pos (by omega), Int.tmod_eq_emod_of_nonneg (by omega)]
      have k1 := Int.emod_nonneg b (show n ≠ 0 by omega)
      have k2 := Int.emod_lt_of_pos b (show 0 < n by omega)
      exact ⟨_, _, rfl, k1, .inl k2, by omega, good_less h1 (by omega)⟩
theorem among_ok {t : GoC.Tape} {m : Nat} {l : List Int} (h : good t (m + 2)) (h0 : 0 < l.length) : ∃ x t', GsL1CurAmong.P t l = some (x, t') ∧ x ∈ l ∧ good t' m := by
  obtain ⟨x, t', e, hx0, hx, _, hg⟩ := pick_ok (n := (l.length : Int)) h
  simp only [GsL1CurAmong.P, e, bind2_some]
  obtain ⟨y, hy, hyi⟩ := at_lt (l := l) (k := x.toNat) (by omega)
  rw [show ((x.toNat : Nat) : Int) = x by omega] at hyi
  exact ⟨y, t', by rw [hyi]; rfl, List.mem_of_getElem? hy, hg⟩
theorem one_ok {t : GoC.Tape} {m : Nat} {n : Int} (h : good t (m + 2)) : ∃ b t', GsL1CurOne.P t n = some (b, t') ∧ good t' m := by
  obtain ⟨x, t', e, _, _, _, hg⟩ := pick_ok (n := n) h
  exact ⟨x == 0, t', by simp only [GsL1CurOne.P, e, bind2_some, letK], hg⟩
end Go.Proofs.Ytgbcdmlcmnaimaa.QDraw

namespace Go.Proofs.Ytgbcdmlcmnaimaa.QAll
open Go.RowKit
open Go.Proofs.Ytgbcdmlcmnaimaa.GoP Go.Proofs.Ytgbcdmlcmnaimaa.QBase Go.Proofs.Ytgbcdmlcmnaimaa.QLoop

/-- each number below n is good -/
def allN (n : Nat) (p : Nat → Bool) : Bool := (List.range n).all p
theorem allN_iff {n : Nat} {p : Nat → Bool} : allN n p = true ↔ ∀ i, i < n → p i = true := by unfold allN; simp
theorem allN_no {n k : Nat} {p : Nat → Bool} (hk : k < n) (h : p k = false) : allN n p = false := by
  rw [Bool.eq_false_iff]; intro ha; rw [allN_iff.1 ha k hk] at h; exact absurd h (by simp)
theorem allN_eq {n m : Nat} {p q : Nat → Bool} (h : (∀ i, i < n → p i = true) ↔ (∀ i, i < m → q i = true)) : allN n p = allN m q := by
  rw [Bool.eq_iff_iff, allN_iff, allN_iff]; exact h
theorem all_cnt {ρ : Type} {n : Nat} {p : Nat → Bool} {no : ρ} {f : Nat → Unit → (Unit → Option ρ) → (Unit → Option ρ) → Option ρ} {fin : Unit → Option ρ}
    (step : ∀ k nx, k < n → (p k = false → f k () nx fin = some no) ∧ (p k = true → f k () nx fin = nx ())) : cntK f n 0 () fin = if allN n p = true then fin () else some no := by
  have key : ∀ m k, k + m = n → (∀ i, i < k → p i = true) → cntK f m k () fin = if allN n p = true then fin () else some no := by
    intro m
    induction m with
    | zero => intro k hk hu; obtain rfl : k = n := by omega
              rw [allN_iff.2 hu]; rfl
    | succ m ih =>
      intro k hk hu
      obtain ⟨h1, h2⟩ := step k (fun s' => cntK f m (k + 1) s' fin) (by omega)
      show f k () _ fin = _
      cases hp : p k with
      | false => rw [h1 hp, allN_no (by omega) hp]; rfl
      | true =>
        rw [h2 hp]
        refine ih (k + 1) (by omega) (fun i hi => ?_)
        by_cases he : i = k
        · rw [he]; exact hp
        · exact hu i (by omega)
  exact key n 0 (by omega) (fun i hi => by omega)
theorem lp_ex {σ ρ : Type} {f : σ → (σ → Option ρ) → (σ → Option ρ) → Option ρ} {fin : σ → Option ρ} {Q : ρ → Prop} {n : Nat} (I : Nat → σ → Prop)
    (step : ∀ k s nx, k < n → I k s → (∀ s', I (k + 1) s' → ∃ r, nx s' = some r ∧ Q r) → ∃ r, f s nx fin = some r ∧ Q r) (done : ∀ s nx, I n s → ∃ r, f s nx fin = some r ∧ Q r) :
    ∀ fuel k s, k ≤ n → n - k < fuel → I k s → ∃ r, loopK f fuel s fin = some r ∧ Q r := by
  intro fuel
  induction fuel with
  | zero => intro k s hk hf; omega
  | succ m ih =>
    intro k s hk hf hI
    show ∃ r, f s _ fin = some r ∧ Q r
    by_cases he : k = n
    · subst he; exact done s _ hI
    · exact step k s _ (by omega) hI (fun s' h' => ih (k + 1) s' (by omega) (by omega) h')
theorem all_lp {ρ : Type} {n : Nat} {p : Nat → Bool} {no : ρ} {f : Int → (Int → Option ρ) → (Int → Option ρ) → Option ρ} {fin : Int → Option ρ}
    (step : ∀ (k : Nat) nx, k < n → (p k = false → f (k : Int) nx fin = some no) ∧ (p k = true → f (k : Int) nx fin = nx ((k + 1 : Nat) : Int))) (stop : ∀ nx, f (n : Int) nx fin = fin (n : Int))
    (fuel : Nat) (hf : n < fuel) : loopK f fuel 0 fin = if allN n p = true then fin (n : Int) else some no := by
  have key : ∀ fuel k, k ≤ n → n - k < fuel → (∀ i, i < k → p i = true) → loopK f fuel (k : Int) fin = if allN n p = true then fin (n : Int) else some no := by
    intro fuel
    induction fuel with
    | zero => intro k hk hf; omega
    | succ m ih =>
      intro k hk hf hu
      show f (k : Int) _ fin = _
      by_cases he : k = n
      · subst he; rw [stop, allN_iff.2 hu]; rfl
      · obtain ⟨h1, h2⟩ := step k (fun s' => loopK f m s' fin) (by omega)
        cases hp : p k with
        | false => rw [h1 hp, allN_no (by omega) hp]; rfl
        | true =>
          rw [h2 hp]
          refine ih (k + 1) (by omega) (by omega) (fun i hi => ?_)
          by_cases he : i = k
          · rw [he]; exact hp
          · exact hu i (by omega)
  exact key fuel 0 (by omega) (by omega) (fun i hi => by omega)
theorem next_i {k : Nat} (h : k ≤ 9223372036854775806) : IntKind.i64.wrap ((k : Int) + 1) = ((k + 1 : Nat) : Int) := by rw [wrap_in (by omega) (by omega)]; omega
end Go.Proofs.Ytgbcdmlcmnaimaa.QAll

namespace Go.Proofs.Ytgbcdmlcmnaimaa.QUp
open Go.RowKit
open Go.Proofs.Ytgbcdmlcmnaimaa.GoP Go.Proofs.Ytgbcdmlcmnaimaa.QBase Go.Proofs.Ytgbcdmlcmnaimaa.QLoop Go.Proofs.Ytgbcdmlcmnaimaa.QAll

theorem upTo_at {α : Type} {ok : α → Bool} {id : α → Int} {l : List α} {n : Nat} (h : upTo ok id l n = true) {k : Nat} (hk : k < n) : upAt ok id l k = true := List.all_eq_true.1 h k (List.mem_range.2 hk)
theorem upTo_ok {α : Type} {ok : α → Bool} {id : α → Int} {l : List α} {n : Nat} (h : upTo ok id l n = true) {k : Nat} (hk : k < n) {x : α} (hx : l[k]? = some x) : ok x = true := by
  have := upTo_at h hk
  unfold upAt at this
  rw [hx] at this
  simp only [Bool.and_eq_true] at this
  exact this.1
theorem upTo_step {α : Type} {ok : α → Bool} {id : α → Int} {l : List α} {n : Nat} (h : upTo ok id l n = true) {k : Nat} (hk : k + 1 < n) {x y : α} (hx : l[k]? = some x) (hy : l[k + 1]? = some y) : id x < id y := by
  have := upTo_at h hk
  unfold upAt at this
  rw [hy] at this
  simp only [Nat.add_sub_cancel, hx, Bool.and_eq_true, Bool.or_eq_true, decide_eq_true_eq] at this
  rcases this.2 with h0 | h0
  · omega
  · exact h0
theorem upTo_lt {α : Type} {ok : α → Bool} {id : α → Int} {l : List α} {n : Nat} (h : upTo ok id l n = true) (hn : n ≤ l.length) {i : Nat} : ∀ d {x y : α}, i + d + 1 < n → l[i]? = some x → l[i + d + 1]? = some y → id x < id y := by
  intro d
  induction d with
  | zero => intro x y hk hx hy; exact upTo_step h hk hx hy
  | succ d ih =>
    intro x y hk hx hy
    obtain ⟨z, hz, _⟩ := at_lt (l := l) (k := i + d + 1) (by omega)
    have h1 := ih (by omega) hx hz
    have h2 := upTo_step (k := i + d + 1) h (by omega) hz (by rw [← hy]; rfl)
    omega
/-- rising numbers: the later one is greater -/
theorem up_less {α : Type} {ok : α → Bool} {id : α → Int} {l : List α} (h : upTo ok id l l.length = true) {i j : Nat} {x y : α} (hij : i < j) (hx : l[i]? = some x) (hy : l[j]? = some y) : id x < id y := by
  have hj := (List.getElem?_eq_some_iff.1 hy).1
  exact upTo_lt h (Nat.le_refl _) (j - i - 1) (by omega) hx (by rw [← hy]; congr 1; omega)
/-- a loop with fuel, from k on, by an invariant -/
theorem lp_is {σ ρ : Type} {f : σ → (σ → Option ρ) → (σ → Option ρ) → Option ρ} {fin : σ → Option ρ} {n : Nat} (r : ρ) (I : Nat → σ → Prop)
    (step : ∀ k s nx, k < n → I k s → (∀ s', I (k + 1) s' → nx s' = some r) → f s nx fin = some r) (done : ∀ s nx, I n s → f s nx fin = some r) (fuel : Nat) (k : Nat) (s : σ) (hk : k ≤ n) (hf : n - k < fuel) (hI : I k s) : loopK f fuel s fin = some r := by
  obtain ⟨r', h, rfl⟩ := lp_ex (Q := fun x => x = r) I (fun k s nx hk hI hn => ⟨r, step k s nx hk hI (fun s' h' => by obtain ⟨_, h, rfl⟩ := hn s' h'; exact h), rfl⟩) (fun s nx h => ⟨r, done s nx h, rfl⟩) fuel k s hk hf hI
  exact h
theorem most_eq (a b : Int) (h : (if b < a then a else b) = max a b := by omega) : (if b < a then a else b) = max a b := h
end Go.Proofs.Ytgbcdmlcmnaimaa.QUp

