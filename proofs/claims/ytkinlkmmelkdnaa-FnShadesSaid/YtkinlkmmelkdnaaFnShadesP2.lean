/- The texts on which the proof of FnShades stands, one behind the other (2 of 6). No condition of their own. -/
import Derived.Test.YtkinlkmmelkdnaaChecked
import Derived.Test.YtkinlkmmelkdnaaFnShadesP1
import Derived.WalkKit
import Derived.WalkSpells
import Derived.WalkLawsBesides
import Derived.BigQuiet
import Derived.OwnWalk
import Derived.Deep.LoopGhost
import Derived.Deep.QuietTactic
import Derived.IntWalk
import Derived.Lib.QuietBelow
import Derived.Deep.RegionHeld3
/- (*loop.example/g01062/spec.l1Cur).shades7 as a plain function, and the contract of the program's: where the plain one has an answer, the program has it. Conditions: slices read as lists. -/
namespace Go.Proofs.Ytkinlkmmelkdnaa.GsL1CurShades7
set_option linter.unusedVariables false
set_option linter.unusedSimpArgs false
open Go.RowKit
open Go.Proofs.Ytkinlkmmelkdnaa.Rowed Go.Proofs.Ytkinlkmmelkdnaa.Turn Go.Proofs.Ytkinlkmmelkdnaa.Aid Go.Proofs.Ytkinlkmmelkdnaa.GoP Go.Proofs.Ytkinlkmmelkdnaa.GoM

def l0 (t_3 : (List ByteArray)) (k0 : Nat) (s : (List Go.Proofs.Ytkinlkmmelkdnaa.PShade.Shade) × Go.Proofs.Ytkinlkmmelkdnaa.GoC.Tape) (nx0 bk0 : (List Go.Proofs.Ytkinlkmmelkdnaa.PShade.Shade) × Go.Proofs.Ytkinlkmmelkdnaa.GoC.Tape → Option ((List Go.Proofs.Ytkinlkmmelkdnaa.PShade.Shade) × Go.Proofs.Ytkinlkmmelkdnaa.GoC.Tape)) : Option ((List Go.Proofs.Ytkinlkmmelkdnaa.PShade.Shade) × Go.Proofs.Ytkinlkmmelkdnaa.GoC.Tape) :=
  unp2 s fun out_3l0 c0_c0l0 =>
  bind2 (Go.Proofs.Ytkinlkmmelkdnaa.GsL1CurOne.P c0_c0l0 2) fun (t_11 : Bool) (t_11_tp : Go.Proofs.Ytkinlkmmelkdnaa.GoC.Tape) =>
  iteK t_11
  (Option.bind (idx t_3 (k0 : Int)) fun (yt_16 : ByteArray) =>
  bind2 (Go.Proofs.Ytkinlkmmelkdnaa.GsL1CurShade7.P t_11_tp yt_16) fun (t_18 : Go.Proofs.Ytkinlkmmelkdnaa.PShade.Shade) (t_18_tp : Go.Proofs.Ytkinlkmmelkdnaa.GoC.Tape) =>
  unShade t_18 fun (t_18_name : ByteArray) (t_18_hue : Int) (t_18_width : Int) (t_18_dark : Int) (t_18_light : Int) =>
  guardK (out_3l0.length ≤ 1099511627776) <|
  letK (out_3l0 ++ [(Go.Proofs.Ytkinlkmmelkdnaa.PShade.Shade.mk t_18_name t_18_hue t_18_width t_18_dark t_18_light)]) fun (t_20 : (List Go.Proofs.Ytkinlkmmelkdnaa.PShade.Shade)) =>
  appK nx0 (t_20, t_18_tp))
  (appK nx0 (out_3l0, t_11_tp))

def l1  (s : (List Go.Proofs.Ytkinlkmmelkdnaa.PShade.Shade) × Int × Go.Proofs.Ytkinlkmmelkdnaa.GoC.Tape) (nx1 bk1 : (List Go.Proofs.Ytkinlkmmelkdnaa.PShade.Shade) × Int × Go.Proofs.Ytkinlkmmelkdnaa.GoC.Tape → Option ((List Go.Proofs.Ytkinlkmmelkdnaa.PShade.Shade) × Go.Proofs.Ytkinlkmmelkdnaa.GoC.Tape)) : Option ((List Go.Proofs.Ytkinlkmmelkdnaa.PShade.Shade) × Go.Proofs.Ytkinlkmmelkdnaa.GoC.Tape) :=
  unp3 s fun out_3l1 n_6l1 c0_c0l1 =>
  bind2 (Go.Proofs.Ytkinlkmmelkdnaa.GsL1CurPick.P c0_c0l1 2) fun (t_34 : Int) (t_34_tp : Go.Proofs.Ytkinlkmmelkdnaa.GoC.Tape) =>
  letK (IntKind.i64.wrap (12 + t_34)) fun (t_35 : Int) =>
  letK (decide (n_6l1 < t_35)) fun (t_36 : Bool) =>
  iteK t_36
  (letK (IntKind.i64.wrap (n_6l1 + 1)) fun (t_40 : Int) =>
  guardK ((0 : Int) ≤ n_6l1 ∧ (n_6l1 : Int) ≤ t_40 ∧ (t_40 : Int) ≤ ((⟨#[97, 98, 99, 100, 101, 102, 103, 104, 105, 106, 107, 108, 109]⟩ : ByteArray).size : Int)) <|
  letK (ByteArray.extract (⟨#[97, 98, 99, 100, 101, 102, 103, 104, 105, 106, 107, 108, 109]⟩ : ByteArray) (Int.toNat n_6l1) (Int.toNat t_40)) fun (t_41 : ByteArray) =>
  letK (Int.tmod n_6l1 12) fun (t_43 : Int) =>
  letK (IntKind.i64.wrap (30 * t_43)) fun (t_44 : Int) =>
  guardK (out_3l1.length ≤ 1099511627776) <|
  letK (out_3l1 ++ [(Go.Proofs.Ytkinlkmmelkdnaa.PShade.Shade.mk t_41 t_44 10 0 60)]) fun (t_47 : (List Go.Proofs.Ytkinlkmmelkdnaa.PShade.Shade)) =>
  letK (IntKind.i64.wrap (n_6l1 + 1)) fun (t_50 : Int) =>
  appK nx1 (t_47, t_50, t_34_tp))
  (appK bk1 (out_3l1, n_6l1, t_34_tp))

def e1  (s : (List Go.Proofs.Ytkinlkmmelkdnaa.PShade.Shade) × Int × Go.Proofs.Ytkinlkmmelkdnaa.GoC.Tape) : Option ((List Go.Proofs.Ytkinlkmmelkdnaa.PShade.Shade) × Go.Proofs.Ytkinlkmmelkdnaa.GoC.Tape) :=
  unp3 s fun out_3l1 n_6l1 c0_c0l1 =>
  some (out_3l1, c0_c0l1)

def e0 (fuel : Nat) (s : (List Go.Proofs.Ytkinlkmmelkdnaa.PShade.Shade) × Go.Proofs.Ytkinlkmmelkdnaa.GoC.Tape) : Option ((List Go.Proofs.Ytkinlkmmelkdnaa.PShade.Shade) × Go.Proofs.Ytkinlkmmelkdnaa.GoC.Tape) :=
  unp2 s fun out_3l0 c0_c0l0 =>
  bind2 (Go.Proofs.Ytkinlkmmelkdnaa.GsL1CurPick.P c0_c0l0 40) fun (t_26 : Int) (t_26_tp : Go.Proofs.Ytkinlkmmelkdnaa.GoC.Tape) =>
  letK (t_26 == 0) fun (t_27 : Bool) =>
  iteK t_27
  (loopK (l1 ) fuel (([] : List Go.Proofs.Ytkinlkmmelkdnaa.PShade.Shade), 0, t_26_tp) (e1 ))
  (letK (t_26 == 1) fun (t_52 : Bool) =>
  iteK t_52
  (letK (decide (1 < (out_3l0.length : Int))) fun (t_56 : Bool) =>
  iteK t_56
  (guardK ((0 : Int) ≤ 1 ∧ (1 : Int) ≤ (out_3l0.length : Int)) <|
  letK (List.drop (Int.toNat 1) out_3l0) fun (t_59 : (List Go.Proofs.Ytkinlkmmelkdnaa.PShade.Shade)) =>
  guardK (([] : List Go.Proofs.Ytkinlkmmelkdnaa.PShade.Shade).length + t_59.length ≤ 1099511627776) <|
  letK (([] : List Go.Proofs.Ytkinlkmmelkdnaa.PShade.Shade) ++ t_59) fun (t_60 : (List Go.Proofs.Ytkinlkmmelkdnaa.PShade.Shade)) =>
  Option.bind (idx out_3l0 0) fun (yt_62 : Go.Proofs.Ytkinlkmmelkdnaa.PShade.Shade) =>
  unShade yt_62 fun (t_62_name : ByteArray) (t_62_hue : Int) (t_62_width : Int) (t_62_dark : Int) (t_62_light : Int) =>
  guardK (t_60.length ≤ 1099511627776) <|
  letK (t_60 ++ [(Go.Proofs.Ytkinlkmmelkdnaa.PShade.Shade.mk t_62_name t_62_hue t_62_width t_62_dark t_62_light)]) fun (t_65 : (List Go.Proofs.Ytkinlkmmelkdnaa.PShade.Shade)) =>
  some (t_65, t_26_tp))
  (some (out_3l0, t_26_tp)))
  (some (out_3l0, t_26_tp)))

def P (fuel : Nat) (c : Go.Proofs.Ytkinlkmmelkdnaa.GoC.Tape) : Option ((List Go.Proofs.Ytkinlkmmelkdnaa.PShade.Shade) × Go.Proofs.Ytkinlkmmelkdnaa.GoC.Tape) :=
  letK ([(⟨#[98, 114, 105, 99, 107]⟩ : ByteArray), (⟨#[108, 97, 107, 101]⟩ : ByteArray), (⟨#[108, 105, 108, 97, 99]⟩ : ByteArray), (⟨#[111, 114, 97, 110, 103, 101]⟩ : ByteArray), (⟨#[114, 101, 100]⟩ : ByteArray), (⟨#[114, 111, 115, 101]⟩ : ByteArray)]) fun (t_3 : (List ByteArray)) =>
  cntK (l0 t_3) (t_3.length) 0 (([] : List Go.Proofs.Ytkinlkmmelkdnaa.PShade.Shade), c) (e0 fuel)

set_option maxRecDepth 100000 in
set_option maxHeartbeats 2000000 in
theorem C (fuel : Nat) (c : Go.Proofs.Ytkinlkmmelkdnaa.GoC.Tape)   (g0 : Nat) (Ac0 : Option Addr) (cc0 : Nat) (bc0 : Nat) (w : World)   (K0 : Hid (Go.Proofs.Ytkinlkmmelkdnaa.GoC.CurIs w bc0 g0 Ac0 cc0 c)) {r : (List Go.Proofs.Ytkinlkmmelkdnaa.PShade.Shade)} {t_ : Go.Proofs.Ytkinlkmmelkdnaa.GoC.Tape} (H : Hid (P fuel c = some (r, t_))) :
    Calls Try.prog 133 #[.pointer (some ⟨g0, 0, none⟩)] w (fun e w' => ∃ A_r c_r, e = .returned (.slice A_r r.length c_r) ∧ w'.ownsRow w.heap.size 74 5 (.slice A_r r.length c_r) r.length (Go.Proofs.Ytkinlkmmelkdnaa.PShade.flat r) ∧ Go.Proofs.Ytkinlkmmelkdnaa.GoC.CurIs w' bc0 g0 Ac0 cc0 t_ ∧ w.grownBy w' (Value.slice (some ⟨g0, 0, none⟩) 1 1).ownBlock) := by
  have HB := Lib.hid (Aid.grown_refl w (Value.slice (some ⟨g0, 0, none⟩) 1 1).ownBlock)
  unfold P at H
  have L0 : bc0 ≤ w.heap.size := by have := Go.Proofs.Ytkinlkmmelkdnaa.GoC.cur_lt K0.out; omega
  obtain ⟨i0_74, hi_74, hz0_74, hz1_74, hz2_74⟩ := Aid.info_parts (P := Try.prog) (T := 74) (z := .agg #[.string ByteArray.empty, .int .i64 0, .int .i64 0, .int .i64 0, .int .i64 0]) (s := 5) (b := 48) (by kernel_rfl)
  go_enter Try.func133, Try.ntmps133
  obtain ⟨w_t_1, hw_t_1⟩ : ∃ x, w.alloc (.cells #[] 74) = x := ⟨_, rfl⟩
  have bw_t_1 : Below w.heap.size w w_t_1 := by rw [← hw_t_1]; exact (Below.refl _ _).alloc (Nat.le_refl _) _
  have Ot_1 : Hid (w_t_1.ownsRow w.heap.size 74 5 (.slice (some ⟨w.heap.size, 0, none⟩) 0 0) 0 []) := Lib.hid (by rw [← hw_t_1]; exact own_empty HB.out.size)
  have Dt_1_c0 := Lib.hid (Go.Proofs.Ytkinlkmmelkdnaa.GoC.apart_cur K0.out)
  have HBw_t_1 := Lib.hid (grown_below HB.out bw_t_1)
  replace K0 := Lib.hid (Go.Proofs.Ytkinlkmmelkdnaa.GoC.cur_below K0.out bw_t_1)
  clear bw_t_1
  replace H := let_hid H
  obtain ⟨t_3, ht_3, H⟩ := H
  obtain ⟨w_t_3, hw_t_3⟩ : ∃ x, w_t_1.alloc (.cells #[.string (⟨#[98, 114, 105, 99, 107]⟩ : ByteArray), .string (⟨#[108, 97, 107, 101]⟩ : ByteArray), .string (⟨#[108, 105, 108, 97, 99]⟩ : ByteArray), .string (⟨#[111, 114, 97, 110, 103, 101]⟩ : ByteArray), .string (⟨#[114, 101, 100]⟩ : ByteArray), .string (⟨#[114, 111, 115, 101]⟩ : ByteArray)] 9) = x := ⟨_, rfl⟩
  have bw_t_3 : Below w_t_1.heap.size w_t_1 w_t_3 := by rw [← hw_t_3]; exact (Below.refl _ _).alloc (Nat.le_refl _) _
  have hs_t_3 := HBw_t_1.out.size
  have nt_3 : t_3.length = 6 := by rw [← ht_3]; rfl
  have Ot_3 : Hid (w_t_3.ownsRow w.heap.size 9 1 (.slice (some ⟨w_t_1.heap.size, 0, none⟩) 6 6) 6 (t_3.map Value.string)) := by
    rw [← hw_t_3, ← ht_3]
    have e_ : ([.string (⟨#[98, 114, 105, 99, 107]⟩ : ByteArray), .string (⟨#[108, 97, 107, 101]⟩ : ByteArray), .string (⟨#[108, 105, 108, 97, 99]⟩ : ByteArray), .string (⟨#[111, 114, 97, 110, 103, 101]⟩ : ByteArray), .string (⟨#[114, 101, 100]⟩ : ByteArray), .string (⟨#[114, 111, 115, 101]⟩ : ByteArray)] : List Value) = (([(⟨#[98, 114, 105, 99, 107]⟩ : ByteArray), (⟨#[108, 97, 107, 101]⟩ : ByteArray), (⟨#[108, 105, 108, 97, 99]⟩ : ByteArray), (⟨#[111, 114, 97, 110, 103, 101]⟩ : ByteArray), (⟨#[114, 101, 100]⟩ : ByteArray), (⟨#[114, 111, 115, 101]⟩ : ByteArray)] : List ByteArray).map Value.string) := rfl
    exact Lib.hid (own_laid (n := 6) hs_t_3 e_ rfl (by unfold maxLen; omega))
  clear hs_t_3
  have hht_3 := Lib.hid ht_3
  clear ht_3
  replace nt_3 := Lib.hid nt_3
  have Dt_3_t_1 := Lib.hid (apart_fresh Ot_1.out)
  have Dt_3_c0 := Lib.hid (Go.Proofs.Ytkinlkmmelkdnaa.GoC.apart_cur K0.out)
  have HBw_t_3 := Lib.hid (grown_below HBw_t_1.out bw_t_3)
  replace Ot_1 := Lib.hid (own_below Ot_1.out bw_t_3)
  replace K0 := Lib.hid (Go.Proofs.Ytkinlkmmelkdnaa.GoC.cur_below K0.out bw_t_3)
  clear bw_t_3
  go_wp2_with fail
  have hc_ := nt_3.out
  have hv_ : (Value.slice (some ⟨w_t_1.heap.size, 0, none⟩) 6 6 : Value) = Value.slice (some ⟨w_t_1.heap.size, 0, none⟩) t_3.length 6 := by rw [hc_]
  try rw [hv_]
  replace Ot_3 := Lib.hid (own_len hc_ Ot_3.out)
  clear hc_ hv_
  have hb_0 : t_3.length ≤ 9223372036854775807 := own_max Ot_3.out
  go_wp2_with fail
  go_loopg [5, 3] (t_3.length) (fun m_ v5_ v3_ wr => ∃ (k0 : Nat) (out_3l0 : (List Go.Proofs.Ytkinlkmmelkdnaa.PShade.Shade)) (c0_c0l0 : Go.Proofs.Ytkinlkmmelkdnaa.GoC.Tape) (Aout_3l0 : Option Addr) (cout_3l0 : Nat), k0 + m_ = t_3.length ∧ v5_ = .int .i64 (k0 : Int) ∧ v3_ = .slice Aout_3l0 out_3l0.length cout_3l0 ∧ Hid (cntK (l0 t_3) m_ k0 (out_3l0, c0_c0l0) (e0 fuel) = some (r, t_)) ∧ Hid (w.grownBy wr (Value.slice (some ⟨g0, 0, none⟩) 1 1).ownBlock) ∧ Hid (wr.ownsRow w.heap.size 74 5 (.slice Aout_3l0 out_3l0.length cout_3l0) out_3l0.length (Go.Proofs.Ytkinlkmmelkdnaa.PShade.flat out_3l0)) ∧ Hid (wr.ownsRow w.heap.size 9 1 (.slice (some ⟨w_t_1.heap.size, 0, none⟩) t_3.length 6) t_3.length (t_3.map Value.string)) ∧ Hid (Apart Aout_3l0 (some ⟨w_t_1.heap.size, 0, none⟩)) ∧ Hid (Apart Aout_3l0 (some ⟨g0, 0, none⟩)) ∧ Hid (Go.Proofs.Ytkinlkmmelkdnaa.GoC.CurIs wr bc0 g0 Ac0 cc0 c0_c0l0))
  case atStart => exact ⟨0, _, _, _, _, by omega, rfl, rfl, H, HBw_t_3, Ot_1, Ot_3, Lib.hid (Apart.symm Dt_3_t_1.out), Lib.hid Dt_1_c0.out, K0⟩
  case round =>
    obtain ⟨k0, out_3l0, c0_c0l0, Aout_3l0, cout_3l0, hkm0, rfl, rfl, H, HBwr0, Oout_3l0, Ot_3, Dout_3l0_t_3, Dout_3l0_c0, Kl0_0⟩ := hrel
    rename World => wr0
    cases gk with
    | zero =>
      obtain rfl : k0 = t_3.length := by omega
      have hc0 : decide (((t_3.length : Nat) : Int) < ((t_3.length : Nat) : Int)) = false := by simp
      replace H := cnt_zero H
      unfold e0 at H
      replace H := unp2_hid H
      replace H := bind2_hid H
      obtain ⟨t_26, t_26_tp, qt_26, H⟩ := H
      go_wp2_with fail
      go_at_call 99
      refine (Go.Proofs.Ytkinlkmmelkdnaa.GsL1CurPick.C (c0_c0l0) (40) (g0) (Ac0) (cc0) (bc0) _   Kl0_0 qt_26).mono ?_
      rintro e_t_26 wt_26 ⟨rfl, kt_26, gt_26⟩
      have Kt_26 := Lib.hid kt_26
      have Gt_26 : Hid (wr0.grownBy wt_26 (Value.slice (some ⟨g0, 0, none⟩) 1 1).ownBlock) := Lib.hid gt_26
      clear kt_26 gt_26
      have HBwt_26 := Lib.hid (Aid.grown_tr HBwr0.out Gt_26.out)
      replace Ot_3 := Lib.hid (own_other Ot_3.out Gt_26.out (Apart.symm Dt_3_c0.out))
      replace Oout_3l0 := Lib.hid (own_other Oout_3l0.out Gt_26.out (Apart.symm Dout_3l0_c0.out))
      clear Kl0_0 Gt_26
      replace H := let_hid H
      obtain ⟨t_27, ht_27, H⟩ := H
      cases t_27 with
      | false =>
        replace H := ite_f H
        replace H := let_hid H
        obtain ⟨t_52, ht_52, H⟩ := H
        cases t_52 with
        | false =>
          replace H := ite_f H
          cases ret_hid H
          go_wp2_with fail
          go_ret
          exact ⟨Aout_3l0, cout_3l0, rfl, Oout_3l0.out, Kt_26.out, HBwt_26.out⟩
        | true =>
          replace H := ite_t H
          replace H := let_hid H
          obtain ⟨t_56, ht_56, H⟩ := H
          cases t_56 with
          | false =>
            have nht_56 : ¬ (1 < out_3l0.length) := by have := of_decide_eq_false ht_56; omega
            replace H := ite_f H
            cases ret_hid H
            go_wp2_with fail
            go_ret
            exact ⟨Aout_3l0, cout_3l0, rfl, Oout_3l0.out, Kt_26.out, HBwt_26.out⟩
          | true =>
            have nht_56 : 1 < out_3l0.length := by have := of_decide_eq_true ht_56; omega
            replace H := ite_t H
            go_wp2_with fail
            have bd17 : Below wt_26.heap.size wt_26 wt_26.drew := (Below.refl _ _).drew
            have HBwt_26.drew := Lib.hid (grown_below HBwt_26.out bd17)
            replace Ot_3 := Lib.hid (own_below Ot_3.out bd17)
            replace Oout_3l0 := Lib.hid (own_below Oout_3l0.out bd17)
            replace Kt_26 := Lib.hid (Go.Proofs.Ytkinlkmmelkdnaa.GoC.cur_below Kt_26.out bd17)
            clear bd17
            replace H := guard_hid H
            obtain ⟨hl_t_59, H⟩ := H
            replace H := let_hid H
            obtain ⟨t_59, ht_59, H⟩ := H
            have hht_59 := Lib.hid ht_59
            have hgt_59 := Lib.hid hl_t_59
            clear ht_59
            clear hl_t_59
            replace H := guard_hid H
            obtain ⟨hlt_60, H⟩ := H
            replace H := let_hid H
            obtain ⟨t_60, ht_60, H⟩ := H
            have hht_60 := Lib.hid ht_60
            clear ht_60
            replace H := idx_hid H
            obtain ⟨nt_62, yt_62, et_62, lt_62, gt_62, H⟩ := H
            obtain rfl : 0 = nt_62 := by omega
            clear et_62
            obtain ⟨t_62_name, t_62_hue, t_62_width, t_62_dark, t_62_light⟩ := yt_62
            replace H := unShade_hid H
            obtain ⟨qt_62, Qt_62⟩ := own_some Oout_3l0.out (by omega)
            subst Qt_62
            obtain ⟨ab_t_62, ao_t_62, zt_62, At_62, z_t_62, ct_62_0, ct_62_1, ct_62_2, ct_62_3, ct_62_4⟩ := Go.Proofs.Ytkinlkmmelkdnaa.OShade.at_ (own_cells Oout_3l0.out) (k := 0) (by omega)
            obtain rfl := Option.some.inj (gt_62.out.symm.trans z_t_62)
            simp only [Option.some.injEq, Addr.mk.injEq] at At_62
            obtain ⟨rfl, rfl, _⟩ := At_62
            clear z_t_62
            have b1t_62 : (0 : Int) < ((out_3l0.length : Nat) : Int) := by omega
            have b3t_62 : 0 < out_3l0.length := by omega
            try simp only [Nat.zero_mul, Nat.add_zero, Nat.zero_add, Nat.reduceMul] at ct_62_0 ct_62_1 ct_62_2 ct_62_3 ct_62_4
            replace H := guard_hid H
            obtain ⟨hlt_65, H⟩ := H
            replace H := let_hid H
            obtain ⟨t_65, ht_65, H⟩ := H
            have hht_65 := Lib.hid ht_65
            clear ht_65
            obtain ⟨At_59_p340, ct_59_p340, rt_59_p340, mt_59_p340, qt_59_p340⟩ := Go.Proofs.Ytkinlkmmelkdnaa.GoD.slice_view (P := Try.prog) (t := 63) (e := 74) (k := .i64) (ys := (Go.Proofs.Ytkinlkmmelkdnaa.PShade.flat t_59)) (m := t_59.length) (by kernel_rfl) (by kernel_rfl) hi_74 hz1_74 Oout_3l0.out (by have h_ := hgt_59.out; omega) (by rw [← hht_59.out, List.length_drop] <;> omega) (by rw [← hht_59.out]; exact flat_drop Go.Proofs.Ytkinlkmmelkdnaa.PShade.Shade.cells 5 (fun _ => rfl) _ _)
            have Mt_59_p340 := Lib.hid mt_59_p340
            have Qt_59_p340 := Lib.hid qt_59_p340
            have Nt_59_p340 : Hid (t_59.length ≤ 9223372036854775807) := Lib.hid (by have h_ := own_max Oout_3l0.out; rw [← hht_59.out, List.length_drop] <;> omega)
            obtain ⟨w_t_57_p346, hw_t_57_p346⟩ : ∃ x, wt_26.drew.alloc (.cells #[] 74) = x := ⟨_, rfl⟩
            have bw_t_57_p346 : Below wt_26.drew.heap.size wt_26.drew w_t_57_p346 := by rw [← hw_t_57_p346]; exact (Below.refl _ _).alloc (Nat.le_refl _) _
            have Ot_57_p346 : Hid (w_t_57_p346.ownsRow w.heap.size 74 5 (.slice (some ⟨wt_26.heap.size, 0, none⟩) 0 0) 0 []) := Lib.hid (by rw [← hw_t_57_p346]; exact own_empty HBwt_26.drew.out.size)
            have Dt_57_t_3_p346 := Lib.hid (apart_fresh Ot_3.out)
            have Dt_57_out_3l0_p346 := Lib.hid (apart_fresh Oout_3l0.out)
            have Dt_57_c0_p346 := Lib.hid (Go.Proofs.Ytkinlkmmelkdnaa.GoC.apart_cur Kt_26.out)
            have HBw_t_57_p346 := Lib.hid (grown_below HBwt_26.drew.out bw_t_57_p346)
            have ct_62_0__341_p346 := cell_below bw_t_57_p346 ct_62_0
            have ct_62_1__342_p346 := cell_below bw_t_57_p346 ct_62_1
            have ct_62_2__343_p346 := cell_below bw_t_57_p346 ct_62_2
            have ct_62_3__344_p346 := cell_below bw_t_57_p346 ct_62_3
            have ct_62_4__345_p346 := cell_below bw_t_57_p346 ct_62_4
            have Ot_3_p346 := Lib.hid (own_below Ot_3.out bw_t_57_p346)
            have Oout_3l0_p346 := Lib.hid (own_below Oout_3l0.out bw_t_57_p346)
            have Kt_26_p346 := Lib.hid (Go.Proofs.Ytkinlkmmelkdnaa.GoC.cur_below Kt_26.out bw_t_57_p346)
            obtain ⟨w_t_64_p360, hw_t_64_p360⟩ : ∃ x, w_t_57_p346.alloc (.cells #[.string t_62_name, .int .i64 t_62_hue, .int .i64 t_62_width, .int .i64 t_62_dark, .int .i64 t_62_light] 74) = x := ⟨_, rfl⟩
            have bw_t_64_p360 : Below w_t_57_p346.heap.size w_t_57_p346 w_t_64_p360 := by rw [← hw_t_64_p360]; exact (Below.refl _ _).alloc (Nat.le_refl _) _
            have Ot_64_p360 : Hid (w_t_64_p360.ownsRow w.heap.size 74 5 (.slice (some ⟨w_t_57_p346.heap.size, 0, none⟩) 1 1) 1 [.string t_62_name, .int .i64 t_62_hue, .int .i64 t_62_width, .int .i64 t_62_dark, .int .i64 t_62_light]) := Lib.hid (by rw [← hw_t_64_p360]; exact own_laid (n := 1) HBw_t_57_p346.out.size (rfl : ([.string t_62_name, .int .i64 t_62_hue, .int .i64 t_62_width, .int .i64 t_62_dark, .int .i64 t_62_light] : List Value) = [.string t_62_name, .int .i64 t_62_hue, .int .i64 t_62_width, .int .i64 t_62_dark, .int .i64 t_62_light]) rfl (by unfold maxLen; omega))
            have Dt_64_t_3_p360 := Lib.hid (apart_fresh Ot_3_p346.out)
            have Dt_64_out_3l0_p360 := Lib.hid (apart_fresh Oout_3l0_p346.out)
            have Dt_64_t_57_p360 := Lib.hid (apart_fresh Ot_57_p346.out)
            have Dt_64_c0_p360 := Lib.hid (Go.Proofs.Ytkinlkmmelkdnaa.GoC.apart_cur Kt_26_p346.out)
            have HBw_t_64_p360 := Lib.hid (grown_below HBw_t_57_p346.out bw_t_64_p360)
            have ct_62_0__355_p360 := cell_below bw_t_64_p360 ct_62_0__341_p346
            have ct_62_1__356_p360 := cell_below bw_t_64_p360 ct_62_1__342_p346
            have ct_62_2__357_p360 := cell_below bw_t_64_p360 ct_62_2__343_p346
            have ct_62_3__358_p360 := cell_below bw_t_64_p360 ct_62_3__344_p346
            have ct_62_4__359_p360 := cell_below bw_t_64_p360 ct_62_4__345_p346
            have Ot_3_p346_p360 := Lib.hid (own_below Ot_3_p346.out bw_t_64_p360)
            have Oout_3l0_p346_p360 := Lib.hid (own_below Oout_3l0_p346.out bw_t_64_p360)
            have Ot_57_p346_p360 := Lib.hid (own_below Ot_57_p346.out bw_t_64_p360)
            have Kt_26_p346_p360 := Lib.hid (Go.Proofs.Ytkinlkmmelkdnaa.GoC.cur_below Kt_26_p346.out bw_t_64_p360)
            obtain ⟨w_t_64_p368, hw_t_64_p368⟩ : ∃ x, wt_26.drew.alloc (.cells #[.string t_62_name, .int .i64 t_62_hue, .int .i64 t_62_width, .int .i64 t_62_dark, .int .i64 t_62_light] 74) = x := ⟨_, rfl⟩
            have bw_t_64_p368 : Below wt_26.drew.heap.size wt_26.drew w_t_64_p368 := by rw [← hw_t_64_p368]; exact (Below.refl _ _).alloc (Nat.le_refl _) _
            have Ot_64_p368 : Hid (w_t_64_p368.ownsRow w.heap.size 74 5 (.slice (some ⟨wt_26.heap.size, 0, none⟩) 1 1) 1 [.string t_62_name, .int .i64 t_62_hue, .int .i64 t_62_width, .int .i64 t_62_dark, .int .i64 t_62_light]) := Lib.hid (by rw [← hw_t_64_p368]; exact own_laid (n := 1) HBwt_26.drew.out.size (rfl : ([.string t_62_name, .int .i64 t_62_hue, .int .i64 t_62_width, .int .i64 t_62_dark, .int .i64 t_62_light] : List Value) = [.string t_62_name, .int .i64 t_62_hue, .int .i64 t_62_width, .int .i64 t_62_dark, .int .i64 t_62_light]) rfl (by unfold maxLen; omega))
            have Dt_64_t_3_p368 := Lib.hid (apart_fresh Ot_3.out)
            have Dt_64_out_3l0_p368 := Lib.hid (apart_fresh Oout_3l0.out)
            have Dt_64_c0_p368 := Lib.hid (Go.Proofs.Ytkinlkmmelkdnaa.GoC.apart_cur Kt_26.out)
            have HBw_t_64_p368 := Lib.hid (grown_below HBwt_26.drew.out bw_t_64_p368)
            have ct_62_0__363_p368 := cell_below bw_t_64_p368 ct_62_0
            have ct_62_1__364_p368 := cell_below bw_t_64_p368 ct_62_1
            have ct_62_2__365_p368 := cell_below bw_t_64_p368 ct_62_2
            have ct_62_3__366_p368 := cell_below bw_t_64_p368 ct_62_3
            have ct_62_4__367_p368 := cell_below bw_t_64_p368 ct_62_4
            have Ot_3_p368 := Lib.hid (own_below Ot_3.out bw_t_64_p368)
            have Oout_3l0_p368 := Lib.hid (own_below Oout_3l0.out bw_t_64_p368)
            have Kt_26_p368 := Lib.hid (Go.Proofs.Ytkinlkmmelkdnaa.GoC.cur_below Kt_26.out bw_t_64_p368)
            obtain ⟨w_t_57_p374, hw_t_57_p374⟩ : ∃ x, w_t_64_p368.alloc (.cells #[] 74) = x := ⟨_, rfl⟩
            have bw_t_57_p374 : Below w_t_64_p368.heap.size w_t_64_p368 w_t_57_p374 := by rw [← hw_t_57_p374]; exact (Below.refl _ _).alloc (Nat.le_refl _) _
            have Ot_57_p374 : Hid (w_t_57_p374.ownsRow w.heap.size 74 5 (.slice (some ⟨w_t_64_p368.heap.size, 0, none⟩) 0 0) 0 []) := Lib.hid (by rw [← hw_t_57_p374]; exact own_empty HBw_t_64_p368.out.size)
            have Dt_57_t_3_p374 := Lib.hid (apart_fresh Ot_3_p368.out)
            have Dt_57_out_3l0_p374 := Lib.hid (apart_fresh Oout_3l0_p368.out)
            have Dt_57_t_64_p374 := Lib.hid (apart_fresh Ot_64_p368.out)
            have Dt_57_c0_p374 := Lib.hid (Go.Proofs.Ytkinlkmmelkdnaa.GoC.apart_cur Kt_26_p368.out)
            have HBw_t_57_p374 := Lib.hid (grown_below HBw_t_64_p368.out bw_t_57_p374)
            have ct_62_0__369_p374 := cell_below bw_t_57_p374 ct_62_0__363_p368
            have ct_62_1__370_p374 := cell_below bw_t_57_p374 ct_62_1__364_p368
            have ct_62_2__371_p374 := cell_below bw_t_57_p374 ct_62_2__365_p368
            have ct_62_3__372_p374 := cell_below bw_t_57_p374 ct_62_3__366_p368
            have ct_62_4__373_p374 := cell_below bw_t_57_p374 ct_62_4__367_p368
            have Ot_3_p368_p374 := Lib.hid (own_below Ot_3_p368.out bw_t_57_p374)
            have Oout_3l0_p368_p374 := Lib.hid (own_below Oout_3l0_p368.out bw_t_57_p374)
            have Ot_64_p368_p374 := Lib.hid (own_below Ot_64_p368.out bw_t_57_p374)
            have Kt_26_p368_p374 := Lib.hid (Go.Proofs.Ytkinlkmmelkdnaa.GoC.cur_below Kt_26_p368.out bw_t_57_p374)
            go_region_held3 (fun w' => w'.cell? ⟨qt_62, 0, none⟩ = some (.string t_62_name) ∧ w'.cell? ⟨qt_62, 1, none⟩ = some (.int .i64 t_62_hue) ∧ w'.cell? ⟨qt_62, 2, none⟩ = some (.int .i64 t_62_width) ∧ w'.cell? ⟨qt_62, 3, none⟩ = some (.int .i64 t_62_dark) ∧ w'.cell? ⟨qt_62, 4, none⟩ = some (.int .i64 t_62_light)) (first | exact ⟨ct_62_0, ct_62_1, ct_62_2, ct_62_3, ct_62_4⟩ | exact ⟨ct_62_0__341_p346, ct_62_1__342_p346, ct_62_2__343_p346, ct_62_3__344_p346, ct_62_4__345_p346⟩ | exact ⟨ct_62_0__341_p346_p347, ct_62_1__342_p346_p347, ct_62_2__343_p346_p347, ct_62_3__344_p346_p347, ct_62_4__345_p346_p347⟩ | exact ⟨ct_62_0__348_p353, ct_62_1__349_p353, ct_62_2__350_p353, ct_62_3__351_p353, ct_62_4__352_p353⟩ | exact ⟨ct_62_0__348_p353_p354, ct_62_1__349_p353_p354, ct_62_2__350_p353_p354, ct_62_3__351_p353_p354, ct_62_4__352_p353_p354⟩ | exact ⟨ct_62_0__355_p360, ct_62_1__356_p360, ct_62_2__357_p360, ct_62_3__358_p360, ct_62_4__359_p360⟩ | exact ⟨ct_62_0__355_p360_p361, ct_62_1__356_p360_p361, ct_62_2__357_p360_p361, ct_62_3__358_p360_p361, ct_62_4__359_p360_p361⟩ | exact ⟨ct_62_0__355_p360_p361_p362, ct_62_1__356_p360_p361_p362, ct_62_2__357_p360_p361_p362, ct_62_3__358_p360_p361_p362, ct_62_4__359_p360_p361_p362⟩ | exact ⟨ct_62_0__363_p368, ct_62_1__364_p368, ct_62_2__365_p368, ct_62_3__366_p368, ct_62_4__367_p368⟩ | exact ⟨ct_62_0__369_p374, ct_62_1__370_p374, ct_62_2__371_p374, ct_62_3__372_p374, ct_62_4__373_p374⟩ | exact ⟨ct_62_0__369_p374_p375, ct_62_1__370_p374_p375, ct_62_2__371_p374_p375, ct_62_3__372_p374_p375, ct_62_4__373_p374_p375⟩ | exact ⟨ct_62_0__369_p374_p375_p376, ct_62_1__370_p374_p375_p376, ct_62_2__371_p374_p375_p376, ct_62_3__372_p374_p375_p376, ct_62_4__373_p374_p375_p376⟩)
                (first
                  | (have hst_60_p347 := HBw_t_57_p346.out.size
                     have Ct_60_p347 := Lib.hid ((Mt_59_p340.out _ Oout_3l0_p346.out))
                     have h1t_60_p347 : 0 + t_59.length ≤ maxLen := by have h_ := hlt_60; simp only [List.length_nil] at h_; unfold maxLen; omega
                     have h2t_60_p347 : (0 + t_59.length) * 48 ≤ 140737488355328 := by have h_ := hlt_60; simp only [List.length_nil] at h_; omega
                     refine Go.Proofs.Ytkinlkmmelkdnaa.GoH.step_spread_own (w := w_t_57_p346) rfl (.tmp 54) (.tmp 56) 63 rfl w.heap.size 74 i0_74 (.agg #[.string ByteArray.empty, .int .i64 0, .int .i64 0, .int .i64 0, .int .i64 0]) 5 48 Try.underlying63 hi_74 hz0_74 hz1_74 hz2_74 rfl (by decide) (some ⟨wt_26.heap.size, 0, none⟩) 0 0 _ rfl Ot_57_p346.out At_59_p340 t_59.length ct_59_p340 (Go.Proofs.Ytkinlkmmelkdnaa.PShade.flat t_59) rfl Qt_59_p340.out Ct_60_p347.out (fun u hu => by obtain ⟨y_, _, hy_⟩ := List.mem_flatMap.1 hu; simp only [Go.Proofs.Ytkinlkmmelkdnaa.PShade.Shade.cells, List.mem_cons, List.not_mem_nil, or_false] at hy_; rcases hy_ with rfl | rfl | rfl | rfl | rfl <;> rfl) h1t_60_p347 h2t_60_p347 hst_60_p347 ?_
                     intro vt_60_p347 wt_60_p347 ot_60_p347 gt_60_p347 yt_60_p347
                     obtain ⟨At_60_p347, ct_60_p347, rfl, pt_60_p347⟩ := own_pushS (f := Go.Proofs.Ytkinlkmmelkdnaa.PShade.flat) hht_60.out (by simp [Go.Proofs.Ytkinlkmmelkdnaa.PShade.flat]) rfl ot_60_p347
                     have Pt_60_p347 := Lib.hid pt_60_p347
                     have Yt_60_p347 := Lib.hid yt_60_p347
                     have Gt_60_p347 := Lib.hid gt_60_p347
                     have HBwt_60_p347 := Lib.hid (Go.Proofs.Ytkinlkmmelkdnaa.GoC.grown_new HBw_t_57_p346.out Gt_60_p347.out (Go.Proofs.Ytkinlkmmelkdnaa.GoC.own_ge Ot_57_p346.out))
                     have Dt_60_t_3_p347 : Hid (Apart At_60_p347 _) := Lib.hid (apart_app Dt_57_t_3_p346.out (fun a_ ha_ => (own_lt Ot_3_p346.out a_ ha_).2) Yt_60_p347.out)
                     have Dt_60_out_3l0_p347 : Hid (Apart At_60_p347 _) := Lib.hid (apart_app Dt_57_out_3l0_p346.out (fun a_ ha_ => (own_lt Oout_3l0_p346.out a_ ha_).2) Yt_60_p347.out)
                     have Dt_60_c0_p347 : Hid (Apart At_60_p347 _) := Lib.hid (apart_app Dt_57_c0_p346.out (fun a_ ha_ => by cases ha_; exact (Go.Proofs.Ytkinlkmmelkdnaa.GoC.cur_lt Kt_26_p346.out).2) Yt_60_p347.out)
                     have ct_62_0__341_p346_p347 := cell_other ct_62_0__341_p346 Gt_60_p347.out Dt_57_out_3l0_p346.out
                     have ct_62_1__342_p346_p347 := cell_other ct_62_1__342_p346 Gt_60_p347.out Dt_57_out_3l0_p346.out
                     have ct_62_2__343_p346_p347 := cell_other ct_62_2__343_p346 Gt_60_p347.out Dt_57_out_3l0_p346.out
                     have ct_62_3__344_p346_p347 := cell_other ct_62_3__344_p346 Gt_60_p347.out Dt_57_out_3l0_p346.out
                     have ct_62_4__345_p346_p347 := cell_other ct_62_4__345_p346 Gt_60_p347.out Dt_57_out_3l0_p346.out
                     have Ot_3_p346_p347 := Lib.hid (own_other Ot_3_p346.out Gt_60_p347.out Dt_57_t_3_p346.out)
                     have Oout_3l0_p346_p347 := Lib.hid (own_other Oout_3l0_p346.out Gt_60_p347.out Dt_57_out_3l0_p346.out)
                     have Kt_26_p346_p347 := Lib.hid (Go.Proofs.Ytkinlkmmelkdnaa.GoC.cur_otherO Kt_26_p346.out Gt_60_p347.out Dt_57_c0_p346.out L0 Ot_57_p346.out)
                     obtain ⟨w_t_64_p353, hw_t_64_p353⟩ : ∃ x, wt_60_p347.alloc (.cells #[.string t_62_name, .int .i64 t_62_hue, .int .i64 t_62_width, .int .i64 t_62_dark, .int .i64 t_62_light] 74) = x := ⟨_, rfl⟩
                     have bw_t_64_p353 : Below wt_60_p347.heap.size wt_60_p347 w_t_64_p353 := by rw [← hw_t_64_p353]; exact (Below.refl _ _).alloc (Nat.le_refl _) _
                     have Ot_64_p353 : Hid (w_t_64_p353.ownsRow w.heap.size 74 5 (.slice (some ⟨wt_60_p347.heap.size, 0, none⟩) 1 1) 1 [.string t_62_name, .int .i64 t_62_hue, .int .i64 t_62_width, .int .i64 t_62_dark, .int .i64 t_62_light]) := Lib.hid (by rw [← hw_t_64_p353]; exact own_laid (n := 1) HBwt_60_p347.out.size (rfl : ([.string t_62_name, .int .i64 t_62_hue, .int .i64 t_62_width, .int .i64 t_62_dark, .int .i64 t_62_light] : List Value) = [.string t_62_name, .int .i64 t_62_hue, .int .i64 t_62_width, .int .i64 t_62_dark, .int .i64 t_62_light]) rfl (by unfold maxLen; omega))
                     have Dt_64_t_3_p353 := Lib.hid (apart_fresh Ot_3_p346_p347.out)
                     have Dt_64_out_3l0_p353 := Lib.hid (apart_fresh Oout_3l0_p346_p347.out)
                     have Dt_64_t_60_p353 := Lib.hid (apart_fresh Pt_60_p347.out)
                     have Dt_64_c0_p353 := Lib.hid (Go.Proofs.Ytkinlkmmelkdnaa.GoC.apart_cur Kt_26_p346_p347.out)
                     have HBw_t_64_p353 := Lib.hid (grown_below HBwt_60_p347.out bw_t_64_p353)
                     have ct_62_0__348_p353 := cell_below bw_t_64_p353 ct_62_0__341_p346_p347
                     have ct_62_1__349_p353 := cell_below bw_t_64_p353 ct_62_1__342_p346_p347
                     have ct_62_2__350_p353 := cell_below bw_t_64_p353 ct_62_2__343_p346_p347
                     have ct_62_3__351_p353 := cell_below bw_t_64_p353 ct_62_3__344_p346_p347
                     have ct_62_4__352_p353 := cell_below bw_t_64_p353 ct_62_4__345_p346_p347
                     have Ot_3_p346_p347_p353 := Lib.hid (own_below Ot_3_p346_p347.out bw_t_64_p353)
                     have Oout_3l0_p346_p347_p353 := Lib.hid (own_below Oout_3l0_p346_p347.out bw_t_64_p353)
                     have Pt_60_p347_p353 := Lib.hid (own_below Pt_60_p347.out bw_t_64_p353)
                     have Kt_26_p346_p347_p353 := Lib.hid (Go.Proofs.Ytkinlkmmelkdnaa.GoC.cur_below Kt_26_p346_p347.out bw_t_64_p353))
                  | (have hst_65_p354 := HBw_t_64_p353.out.size
                     have h1t_65_p354 : t_60.length + 1 ≤ maxLen := by unfold maxLen; omega
                     have h2t_65_p354 : (t_60.length + 1) * 48 ≤ 140737488355328 := by omega
                     have h3t_65_p354 := Ot_64_p353.out.cells rfl
                     refine Go.Proofs.Ytkinlkmmelkdnaa.GoH.step_append_own (w := w_t_64_p353) rfl (.tmp 57) (.tmp 61) 63 rfl w.heap.size 74 i0_74 (.agg #[.string ByteArray.empty, .int .i64 0, .int .i64 0, .int .i64 0, .int .i64 0]) 5 48 Try.underlying63 hi_74 hz0_74 hz1_74 hz2_74 rfl (by decide) At_60_p347 ct_60_p347 t_60.length _ rfl Pt_60_p347_p353.out ⟨wt_60_p347.heap.size, 0, none⟩ 1 [.string t_62_name, .int .i64 t_62_hue, .int .i64 t_62_width, .int .i64 t_62_dark, .int .i64 t_62_light] rfl rfl h3t_65_p354 (one_cells rfl) h1t_65_p354 h2t_65_p354 hst_65_p354 ?_
                     intro vt_65_p354 wt_65_p354 ot_65_p354 gt_65_p354 yt_65_p354
                     obtain ⟨qt_65_p354, ct_65_p354, rfl, pt_65_p354⟩ := own_push hht_65.out (Go.Proofs.Ytkinlkmmelkdnaa.PShade.flat_snoc _ _) rfl ot_65_p354
                     have Pt_65_p354 := Lib.hid pt_65_p354
                     have Yt_65_p354 := Lib.hid yt_65_p354
                     have Gt_65_p354 := Lib.hid gt_65_p354
                     have HBwt_65_p354 := Lib.hid (Go.Proofs.Ytkinlkmmelkdnaa.GoC.grown_new HBw_t_64_p353.out Gt_65_p354.out (Go.Proofs.Ytkinlkmmelkdnaa.GoC.own_ge Pt_60_p347_p353.out))
                     have Dt_65_t_3_p354 : Hid (Apart (some ⟨qt_65_p354, 0, none⟩) _) := Lib.hid (apart_app Dt_60_t_3_p347.out (fun a_ ha_ => (own_lt Ot_3_p346_p347_p353.out a_ ha_).2) Yt_65_p354.out)
                     have Dt_65_out_3l0_p354 : Hid (Apart (some ⟨qt_65_p354, 0, none⟩) _) := Lib.hid (apart_app Dt_60_out_3l0_p347.out (fun a_ ha_ => (own_lt Oout_3l0_p346_p347_p353.out a_ ha_).2) Yt_65_p354.out)
                     have Dt_65_c0_p354 : Hid (Apart (some ⟨qt_65_p354, 0, none⟩) _) := Lib.hid (apart_app Dt_60_c0_p347.out (fun a_ ha_ => by cases ha_; exact (Go.Proofs.Ytkinlkmmelkdnaa.GoC.cur_lt Kt_26_p346_p347_p353.out).2) Yt_65_p354.out)
                     have Dt_65_t_64_p354 : Hid (Apart (some ⟨qt_65_p354, 0, none⟩) _) := Lib.hid (apart_app (Apart.symm Dt_64_t_60_p353.out) (fun a_ ha_ => (own_lt Ot_64_p353.out a_ ha_).2) Yt_65_p354.out)
                     have ct_62_0__348_p353_p354 := cell_other ct_62_0__348_p353 Gt_65_p354.out Dt_60_out_3l0_p347.out
                     have ct_62_1__349_p353_p354 := cell_other ct_62_1__349_p353 Gt_65_p354.out Dt_60_out_3l0_p347.out
                     have ct_62_2__350_p353_p354 := cell_other ct_62_2__350_p353 Gt_65_p354.out Dt_60_out_3l0_p347.out
                     have ct_62_3__351_p353_p354 := cell_other ct_62_3__351_p353 Gt_65_p354.out Dt_60_out_3l0_p347.out
                     have ct_62_4__352_p353_p354 := cell_other ct_62_4__352_p353 Gt_65_p354.out Dt_60_out_3l0_p347.out
                     have Ot_3_p346_p347_p353_p354 := Lib.hid (own_other Ot_3_p346_p347_p353.out Gt_65_p354.out Dt_60_t_3_p347.out)
                     have Oout_3l0_p346_p347_p353_p354 := Lib.hid (own_other Oout_3l0_p346_p347_p353.out Gt_65_p354.out Dt_60_out_3l0_p347.out)
                     have Ot_64_p353_p354 := Lib.hid (own_other Ot_64_p353.out Gt_65_p354.out (Apart.symm Dt_64_t_60_p353.out))
                     have Kt_26_p346_p347_p353_p354 := Lib.hid (Go.Proofs.Ytkinlkmmelkdnaa.GoC.cur_otherO Kt_26_p346_p347_p353.out Gt_65_p354.out Dt_60_c0_p347.out L0 Pt_60_p347_p353.out))
                  | (have hst_60_p361 := HBw_t_64_p360.out.size
                     have Ct_60_p361 := Lib.hid ((Mt_59_p340.out _ Oout_3l0_p346_p360.out))
                     have h1t_60_p361 : 0 + t_59.length ≤ maxLen := by have h_ := hlt_60; simp only [List.length_nil] at h_; unfold maxLen; omega
                     have h2t_60_p361 : (0 + t_59.length) * 48 ≤ 140737488355328 := by have h_ := hlt_60; simp only [List.length_nil] at h_; omega
                     refine Go.Proofs.Ytkinlkmmelkdnaa.GoH.step_spread_own (w := w_t_64_p360) rfl (.tmp 54) (.tmp 56) 63 rfl w.heap.size 74 i0_74 (.agg #[.string ByteArray.empty, .int .i64 0, .int .i64 0, .int .i64 0, .int .i64 0]) 5 48 Try.underlying63 hi_74 hz0_74 hz1_74 hz2_74 rfl (by decide) (some ⟨wt_26.heap.size, 0, none⟩) 0 0 _ rfl Ot_57_p346_p360.out At_59_p340 t_59.length ct_59_p340 (Go.Proofs.Ytkinlkmmelkdnaa.PShade.flat t_59) rfl Qt_59_p340.out Ct_60_p361.out (fun u hu => by obtain ⟨y_, _, hy_⟩ := List.mem_flatMap.1 hu; simp only [Go.Proofs.Ytkinlkmmelkdnaa.PShade.Shade.cells, List.mem_cons, List.not_mem_nil, or_false] at hy_; rcases hy_ with rfl | rfl | rfl | rfl | rfl <;> rfl) h1t_60_p361 h2t_60_p361 hst_60_p361 ?_
                     intro vt_60_p361 wt_60_p361 ot_60_p361 gt_60_p361 yt_60_p361
                     obtain ⟨At_60_p361, ct_60_p361, rfl, pt_60_p361⟩ := own_pushS (f := Go.Proofs.Ytkinlkmmelkdnaa.PShade.flat) hht_60.out (by simp [Go.Proofs.Ytkinlkmmelkdnaa.PShade.flat]) rfl ot_60_p361
                     have Pt_60_p361 := Lib.hid pt_60_p361
                     have Yt_60_p361 := Lib.hid yt_60_p361
                     have Gt_60_p361 := Lib.hid gt_60_p361
                     have HBwt_60_p361 := Lib.hid (Go.Proofs.Ytkinlkmmelkdnaa.GoC.grown_new HBw_t_64_p360.out Gt_60_p361.out (Go.Proofs.Ytkinlkmmelkdnaa.GoC.own_ge Ot_57_p346_p360.out))
                     have Dt_60_t_3_p361 : Hid (Apart At_60_p361 _) := Lib.hid (apart_app Dt_57_t_3_p346.out (fun a_ ha_ => (own_lt Ot_3_p346_p360.out a_ ha_).2) Yt_60_p361.out)
                     have Dt_60_out_3l0_p361 : Hid (Apart At_60_p361 _) := Lib.hid (apart_app Dt_57_out_3l0_p346.out (fun a_ ha_ => (own_lt Oout_3l0_p346_p360.out a_ ha_).2) Yt_60_p361.out)
                     have Dt_60_c0_p361 : Hid (Apart At_60_p361 _) := Lib.hid (apart_app Dt_57_c0_p346.out (fun a_ ha_ => by cases ha_; exact (Go.Proofs.Ytkinlkmmelkdnaa.GoC.cur_lt Kt_26_p346_p360.out).2) Yt_60_p361.out)
                     have Dt_60_t_64_p361 : Hid (Apart At_60_p361 _) := Lib.hid (apart_app (Apart.symm Dt_64_t_57_p360.out) (fun a_ ha_ => (own_lt Ot_64_p360.out a_ ha_).2) Yt_60_p361.out)
                     have ct_62_0__355_p360_p361 := cell_other ct_62_0__355_p360 Gt_60_p361.out Dt_57_out_3l0_p346.out
                     have ct_62_1__356_p360_p361 := cell_other ct_62_1__356_p360 Gt_60_p361.out Dt_57_out_3l0_p346.out
                     have ct_62_2__357_p360_p361 := cell_other ct_62_2__357_p360 Gt_60_p361.out Dt_57_out_3l0_p346.out
                     have ct_62_3__358_p360_p361 := cell_other ct_62_3__358_p360 Gt_60_p361.out Dt_57_out_3l0_p346.out
                     have ct_62_4__359_p360_p361 := cell_other ct_62_4__359_p360 Gt_60_p361.out Dt_57_out_3l0_p346.out
                     have Ot_3_p346_p360_p361 := Lib.hid (own_other Ot_3_p346_p360.out Gt_60_p361.out Dt_57_t_3_p346.out)
                     have Oout_3l0_p346_p360_p361 := Lib.hid (own_other Oout_3l0_p346_p360.out Gt_60_p361.out Dt_57_out_3l0_p346.out)
                     have Ot_64_p360_p361 := Lib.hid (own_other Ot_64_p360.out Gt_60_p361.out (Apart.symm Dt_64_t_57_p360.out))
                     have Kt_26_p346_p360_p361 := Lib.hid (Go.Proofs.Ytkinlkmmelkdnaa.GoC.cur_otherO Kt_26_p346_p360.out Gt_60_p361.out Dt_57_c0_p346.out L0 Ot_57_p346_p360.out))
                  | (have hst_65_p362 := HBwt_60_p361.out.size
                     have h1t_65_p362 : t_60.length + 1 ≤ maxLen := by unfold maxLen; omega
                     have h2t_65_p362 : (t_60.length + 1) * 48 ≤ 140737488355328 := by omega
                     have h3t_65_p362 := Ot_64_p360_p361.out.cells rfl
                     refine Go.Proofs.Ytkinlkmmelkdnaa.GoH.step_append_own (w := wt_60_p361) rfl (.tmp 57) (.tmp 61) 63 rfl w.heap.size 74 i0_74 (.agg #[.string ByteArray.empty, .int .i64 0, .int .i64 0, .int .i64 0, .int .i64 0]) 5 48 Try.underlying63 hi_74 hz0_74 hz1_74 hz2_74 rfl (by decide) At_60_p361 ct_60_p361 t_60.length _ rfl Pt_60_p361.out ⟨w_t_57_p346.heap.size, 0, none⟩ 1 [.string t_62_name, .int .i64 t_62_hue, .int .i64 t_62_width, .int .i64 t_62_dark, .int .i64 t_62_light] rfl rfl h3t_65_p362 (one_cells rfl) h1t_65_p362 h2t_65_p362 hst_65_p362 ?_
                     intro vt_65_p362 wt_65_p362 ot_65_p362 gt_65_p362 yt_65_p362
                     obtain ⟨qt_65_p362, ct_65_p362, rfl, pt_65_p362⟩ := own_push hht_65.out (Go.Proofs.Ytkinlkmmelkdnaa.PShade.flat_snoc _ _) rfl ot_65_p362
                     have Pt_65_p362 := Lib.hid pt_65_p362
                     have Yt_65_p362 := Lib.hid yt_65_p362
                     have Gt_65_p362 := Lib.hid gt_65_p362
                     have HBwt_65_p362 := Lib.hid (Go.Proofs.Ytkinlkmmelkdnaa.GoC.grown_new HBwt_60_p361.out Gt_65_p362.out (Go.Proofs.Ytkinlkmmelkdnaa.GoC.own_ge Pt_60_p361.out))
                     have Dt_65_t_3_p362 : Hid (Apart (some ⟨qt_65_p362, 0, none⟩) _) := Lib.hid (apart_app Dt_60_t_3_p361.out (fun a_ ha_ => (own_lt Ot_3_p346_p360_p361.out a_ ha_).2) Yt_65_p362.out)
                     have Dt_65_out_3l0_p362 : Hid (Apart (some ⟨qt_65_p362, 0, none⟩) _) := Lib.hid (apart_app Dt_60_out_3l0_p361.out (fun a_ ha_ => (own_lt Oout_3l0_p346_p360_p361.out a_ ha_).2) Yt_65_p362.out)
                     have Dt_65_c0_p362 : Hid (Apart (some ⟨qt_65_p362, 0, none⟩) _) := Lib.hid (apart_app Dt_60_c0_p361.out (fun a_ ha_ => by cases ha_; exact (Go.Proofs.Ytkinlkmmelkdnaa.GoC.cur_lt Kt_26_p346_p360_p361.out).2) Yt_65_p362.out)
                     have Dt_65_t_64_p362 : Hid (Apart (some ⟨qt_65_p362, 0, none⟩) _) := Lib.hid (apart_app Dt_60_t_64_p361.out (fun a_ ha_ => (own_lt Ot_64_p360_p361.out a_ ha_).2) Yt_65_p362.out)
                     have ct_62_0__355_p360_p361_p362 := cell_other ct_62_0__355_p360_p361 Gt_65_p362.out Dt_60_out_3l0_p361.out
                     have ct_62_1__356_p360_p361_p362 := cell_other ct_62_1__356_p360_p361 Gt_65_p362.out Dt_60_out_3l0_p361.out
                     have ct_62_2__357_p360_p361_p362 := cell_other ct_62_2__357_p360_p361 Gt_65_p362.out Dt_60_out_3l0_p361.out
                     have ct_62_3__358_p360_p361_p362 := cell_other ct_62_3__358_p360_p361 Gt_65_p362.out Dt_60_out_3l0_p361.out
                     have ct_62_4__359_p360_p361_p362 := cell_other ct_62_4__359_p360_p361 Gt_65_p362.out Dt_60_out_3l0_p361.out
                     have Ot_3_p346_p360_p361_p362 := Lib.hid (own_other Ot_3_p346_p360_p361.out Gt_65_p362.out Dt_60_t_3_p361.out)
                     have Oout_3l0_p346_p360_p361_p362 := Lib.hid (own_other Oout_3l0_p346_p360_p361.out Gt_65_p362.out Dt_60_out_3l0_p361.out)
                     have Ot_64_p360_p361_p362 := Lib.hid (own_other Ot_64_p360_p361.out Gt_65_p362.out Dt_60_t_64_p361.out)
                     have Kt_26_p346_p360_p361_p362 := Lib.hid (Go.Proofs.Ytkinlkmmelkdnaa.GoC.cur_otherO Kt_26_p346_p360_p361.out Gt_65_p362.out Dt_60_c0_p361.out L0 Pt_60_p361.out))
                  | (have hst_60_p375 := HBw_t_57_p374.out.size
                     have Ct_60_p375 := Lib.hid ((Mt_59_p340.out _ Oout_3l0_p368_p374.out))
                     have h1t_60_p375 : 0 + t_59.length ≤ maxLen := by have h_ := hlt_60; simp only [List.length_nil] at h_; unfold maxLen; omega
                     have h2t_60_p375 : (0 + t_59.length) * 48 ≤ 140737488355328 := by have h_ := hlt_60; simp only [List.length_nil] at h_; omega
                     refine Go.Proofs.Ytkinlkmmelkdnaa.GoH.step_spread_own (w := w_t_57_p374) rfl (.tmp 54) (.tmp 56) 63 rfl w.heap.size 74 i0_74 (.agg #[.string ByteArray.empty, .int .i64 0, .int .i64 0, .int .i64 0, .int .i64 0]) 5 48 Try.underlying63 hi_74 hz0_74 hz1_74 hz2_74 rfl (by decide) (some ⟨w_t_64_p368.heap.size, 0, none⟩) 0 0 _ rfl Ot_57_p374.out At_59_p340 t_59.length ct_59_p340 (Go.Proofs.Ytkinlkmmelkdnaa.PShade.flat t_59) rfl Qt_59_p340.out Ct_60_p375.out (fun u hu => by obtain ⟨y_, _, hy_⟩ := List.mem_flatMap.1 hu; simp only [Go.Proofs.Ytkinlkmmelkdnaa.PShade.Shade.cells, List.mem_cons, List.not_mem_nil, or_false] at hy_; rcases hy_ with rfl | rfl | rfl | rfl | rfl <;> rfl) h1t_60_p375 h2t_60_p375 hst_60_p375 ?_
                     intro vt_60_p375 wt_60_p375 ot_60_p375 gt_60_p375 yt_60_p375
                     obtain ⟨At_60_p375, ct_60_p375, rfl, pt_60_p375⟩ := own_pushS (f := Go.Proofs.Ytkinlkmmelkdnaa.PShade.flat) hht_60.out (by simp [Go.Proofs.Ytkinlkmmelkdnaa.PShade.flat]) rfl ot_60_p375
                     have Pt_60_p375 := Lib.hid pt_60_p375
                     have Yt_60_p375 := Lib.hid yt_60_p375
                     have Gt_60_p375 := Lib.hid gt_60_p375
                     have HBwt_60_p375 := Lib.hid (Go.Proofs.Ytkinlkmmelkdnaa.GoC.grown_new HBw_t_57_p374.out Gt_60_p375.out (Go.Proofs.Ytkinlkmmelkdnaa.GoC.own_ge Ot_57_p374.out))
                     have Dt_60_t_3_p375 : Hid (Apart At_60_p375 _) := Lib.hid (apart_app Dt_57_t_3_p374.out (fun a_ ha_ => (own_lt Ot_3_p368_p374.out a_ ha_).2) Yt_60_p375.out)
                     have Dt_60_out_3l0_p375 : Hid (Apart At_60_p375 _) := Lib.hid (apart_app Dt_57_out_3l0_p374.out (fun a_ ha_ => (own_lt Oout_3l0_p368_p374.out a_ ha_).2) Yt_60_p375.out)
                     have Dt_60_t_64_p375 : Hid (Apart At_60_p375 _) := Lib.hid (apart_app Dt_57_t_64_p374.out (fun a_ ha_ => (own_lt Ot_64_p368_p374.out a_ ha_).2) Yt_60_p375.out)
                     have Dt_60_c0_p375 : Hid (Apart At_60_p375 _) := Lib.hid (apart_app Dt_57_c0_p374.out (fun a_ ha_ => by cases ha_; exact (Go.Proofs.Ytkinlkmmelkdnaa.GoC.cur_lt Kt_26_p368_p374.out).2) Yt_60_p375.out)
                     have ct_62_0__369_p374_p375 := cell_other ct_62_0__369_p374 Gt_60_p375.out Dt_57_out_3l0_p374.out
                     have ct_62_1__370_p374_p375 := cell_other ct_62_1__370_p374 Gt_60_p375.out Dt_57_out_3l0_p374.out
                     have ct_62_2__371_p374_p375 := cell_other ct_62_2__371_p374 Gt_60_p375.out Dt_57_out_3l0_p374.out
                     have ct_62_3__372_p374_p375 := cell_other ct_62_3__372_p374 Gt_60_p375.out Dt_57_out_3l0_p374.out
                     have ct_62_4__373_p374_p375 := cell_other ct_62_4__373_p374 Gt_60_p375.out Dt_57_out_3l0_p374.out
                     have Ot_3_p368_p374_p375 := Lib.hid (own_other Ot_3_p368_p374.out Gt_60_p375.out Dt_57_t_3_p374.out)
                     have Oout_3l0_p368_p374_p375 := Lib.hid (own_other Oout_3l0_p368_p374.out Gt_60_p375.out Dt_57_out_3l0_p374.out)
                     have Ot_64_p368_p374_p375 := Lib.hid (own_other Ot_64_p368_p374.out Gt_60_p375.out Dt_57_t_64_p374.out)
                     have Kt_26_p368_p374_p375 := Lib.hid (Go.Proofs.Ytkinlkmmelkdnaa.GoC.cur_otherO Kt_26_p368_p374.out Gt_60_p375.out Dt_57_c0_p374.out L0 Ot_57_p374.out))
                  | (have hst_65_p376 := HBwt_60_p375.out.size
                     have h1t_65_p376 : t_60.length + 1 ≤ maxLen := by unfold maxLen; omega
                     have h2t_65_p376 : (t_60.length + 1) * 48 ≤ 140737488355328 := by omega
                     have h3t_65_p376 := Ot_64_p368_p374_p375.out.cells rfl
                     refine Go.Proofs.Ytkinlkmmelkdnaa.GoH.step_append_own (w := wt_60_p375) rfl (.tmp 57) (.tmp 61) 63 rfl w.heap.size 74 i0_74 (.agg #[.string ByteArray.empty, .int .i64 0, .int .i64 0, .int .i64 0, .int .i64 0]) 5 48 Try.underlying63 hi_74 hz0_74 hz1_74 hz2_74 rfl (by decide) At_60_p375 ct_60_p375 t_60.length _ rfl Pt_60_p375.out ⟨wt_26.heap.size, 0, none⟩ 1 [.string t_62_name, .int .i64 t_62_hue, .int .i64 t_62_width, .int .i64 t_62_dark, .int .i64 t_62_light] rfl rfl h3t_65_p376 (one_cells rfl) h1t_65_p376 h2t_65_p376 hst_65_p376 ?_
                     intro vt_65_p376 wt_65_p376 ot_65_p376 gt_65_p376 yt_65_p376
                     obtain ⟨qt_65_p376, ct_65_p376, rfl, pt_65_p376⟩ := own_push hht_65.out (Go.Proofs.Ytkinlkmmelkdnaa.PShade.flat_snoc _ _) rfl ot_65_p376
                     have Pt_65_p376 := Lib.hid pt_65_p376
                     have Yt_65_p376 := Lib.hid yt_65_p376
                     have Gt_65_p376 := Lib.hid gt_65_p376
                     have HBwt_65_p376 := Lib.hid (Go.Proofs.Ytkinlkmmelkdnaa.GoC.grown_new HBwt_60_p375.out Gt_65_p376.out (Go.Proofs.Ytkinlkmmelkdnaa.GoC.own_ge Pt_60_p375.out))
                     have Dt_65_t_3_p376 : Hid (Apart (some ⟨qt_65_p376, 0, none⟩) _) := Lib.hid (apart_app Dt_60_t_3_p375.out (fun a_ ha_ => (own_lt Ot_3_p368_p374_p375.out a_ ha_).2) Yt_65_p376.out)
                     have Dt_65_out_3l0_p376 : Hid (Apart (some ⟨qt_65_p376, 0, none⟩) _) := Lib.hid (apart_app Dt_60_out_3l0_p375.out (fun a_ ha_ => (own_lt Oout_3l0_p368_p374_p375.out a_ ha_).2) Yt_65_p376.out)
                     have Dt_65_t_64_p376 : Hid (Apart (some ⟨qt_65_p376, 0, none⟩) _) := Lib.hid (apart_app Dt_60_t_64_p375.out (fun a_ ha_ => (own_lt Ot_64_p368_p374_p375.out a_ ha_).2) Yt_65_p376.out)
                     have Dt_65_c0_p376 : Hid (Apart (some ⟨qt_65_p376, 0, none⟩) _) := Lib.hid (apart_app Dt_60_c0_p375.out (fun a_ ha_ => by cases ha_; exact (Go.Proofs.Ytkinlkmmelkdnaa.GoC.cur_lt Kt_26_p368_p374_p375.out).2) Yt_65_p376.out)
                     have ct_62_0__369_p374_p375_p376 := cell_other ct_62_0__369_p374_p375 Gt_65_p376.out Dt_60_out_3l0_p375.out
                     have ct_62_1__370_p374_p375_p376 := cell_other ct_62_1__370_p374_p375 Gt_65_p376.out Dt_60_out_3l0_p375.out
                     have ct_62_2__371_p374_p375_p376 := cell_other ct_62_2__371_p374_p375 Gt_65_p376.out Dt_60_out_3l0_p375.out
                     have ct_62_3__372_p374_p375_p376 := cell_other ct_62_3__372_p374_p375 Gt_65_p376.out Dt_60_out_3l0_p375.out
                     have ct_62_4__373_p374_p375_p376 := cell_other ct_62_4__373_p374_p375 Gt_65_p376.out Dt_60_out_3l0_p375.out
                     have Ot_3_p368_p374_p375_p376 := Lib.hid (own_other Ot_3_p368_p374_p375.out Gt_65_p376.out Dt_60_t_3_p375.out)
                     have Oout_3l0_p368_p374_p375_p376 := Lib.hid (own_other Oout_3l0_p368_p374_p375.out Gt_65_p376.out Dt_60_out_3l0_p375.out)
                     have Ot_64_p368_p374_p375_p376 := Lib.hid (own_other Ot_64_p368_p374_p375.out Gt_65_p376.out Dt_60_t_64_p375.out)
                     have Kt_26_p368_p374_p375_p376 := Lib.hid (Go.Proofs.Ytkinlkmmelkdnaa.GoC.cur_otherO Kt_26_p368_p374_p375.out Gt_65_p376.out Dt_60_c0_p375.out L0 Pt_60_p375.out)))
            · skip
              cases ret_hid H
              go_wp2_with fail
              go_ret
              exact ⟨(some ⟨qt_65_p354, 0, none⟩), ct_65_p354, rfl, Pt_65_p354.out, Kt_26_p346_p347_p353_p354.out, HBwt_65_p354.out⟩
            · skip
              cases ret_hid H
              go_wp2_with fail
              go_ret
              exact ⟨(some ⟨qt_65_p362, 0, none⟩), ct_65_p362, rfl, Pt_65_p362.out, Kt_26_p346_p360_p361_p362.out, HBwt_65_p362.out⟩
            · skip
              cases ret_hid H
              go_wp2_with fail
              go_ret
              exact ⟨(some ⟨qt_65_p376, 0, none⟩), ct_65_p376, rfl, Pt_65_p376.out, Kt_26_p368_p374_p375_p376.out, HBwt_65_p376.out⟩
      | true =>
        replace H := ite_t H
        obtain ⟨w_t_29, hw_t_29⟩ : ∃ x, wt_26.alloc (.cells #[] 74) = x := ⟨_, rfl⟩
        have bw_t_29 : Below wt_26.heap.size wt_26 w_t_29 := by rw [← hw_t_29]; exact (Below.refl _ _).alloc (Nat.le_refl _) _
        have Ot_29 : Hid (w_t_29.ownsRow w.heap.size 74 5 (.slice (some ⟨wt_26.heap.size, 0, none⟩) 0 0) 0 []) := Lib.hid (by rw [← hw_t_29]; exact own_empty HBwt_26.out.size)
        have Dt_29_t_3 := Lib.hid (apart_fresh Ot_3.out)
        have Dt_29_out_3l0 := Lib.hid (apart_fresh Oout_3l0.out)
        have Dt_29_c0 := Lib.hid (Go.Proofs.Ytkinlkmmelkdnaa.GoC.apart_cur Kt_26.out)
        have HBw_t_29 := Lib.hid (grown_below HBwt_26.out bw_t_29)
        replace Ot_3 := Lib.hid (own_below Ot_3.out bw_t_29)
        replace Oout_3l0 := Lib.hid (own_below Oout_3l0.out bw_t_29)
        replace Kt_26 := Lib.hid (Go.Proofs.Ytkinlkmmelkdnaa.GoC.cur_below Kt_26.out bw_t_29)
        clear bw_t_29
        go_wp2_with fail
        go_loopg [3, 6] (fuel) (fun m_ v3_ v6_ wr => ∃ (out_3l1 : (List Go.Proofs.Ytkinlkmmelkdnaa.PShade.Shade)) (n_6l1 : Int) (c0_c0l1 : Go.Proofs.Ytkinlkmmelkdnaa.GoC.Tape) (Aout_3l1 : Option Addr) (cout_3l1 : Nat), v3_ = .slice Aout_3l1 out_3l1.length cout_3l1 ∧ v6_ = .int .i64 n_6l1 ∧ Hid (loopK (l1 ) m_ (out_3l1, n_6l1, c0_c0l1) (e1 ) = some (r, t_)) ∧ Hid (w.grownBy wr (Value.slice (some ⟨g0, 0, none⟩) 1 1).ownBlock) ∧ Hid (wr.ownsRow w.heap.size 74 5 (.slice Aout_3l1 out_3l1.length cout_3l1) out_3l1.length (Go.Proofs.Ytkinlkmmelkdnaa.PShade.flat out_3l1)) ∧ Hid (wr.ownsRow w.heap.size 9 1 (.slice (some ⟨w_t_1.heap.size, 0, none⟩) t_3.length 6) t_3.length (t_3.map Value.string)) ∧ Hid (Apart Aout_3l1 (some ⟨w_t_1.heap.size, 0, none⟩)) ∧ Hid (Apart Aout_3l1 (some ⟨g0, 0, none⟩)) ∧ Hid (Go.Proofs.Ytkinlkmmelkdnaa.GoC.CurIs wr bc0 g0 Ac0 cc0 c0_c0l1))
        case atStart => exact ⟨_, _, _, _, _, rfl, rfl, H, HBw_t_29, Ot_29, Ot_3, Lib.hid Dt_29_t_3.out, Lib.hid Dt_29_c0.out, Kt_26⟩
        case round =>
          obtain ⟨out_3l1, n_6l1, c0_c0l1, Aout_3l1, cout_3l1, rfl, rfl, H, HBwr1, Oout_3l1, Ot_3, Dout_3l1_t_3, Dout_3l1_c0, Kl1_0⟩ := hrel
          rename World => wr1
          cases gk with
          | zero => exact (loop_zero H).elim
          | succ m1 =>
            replace H := loop_succ H
            unfold l1 at H
            replace H := unp3_hid H
            replace H := bind2_hid H
            obtain ⟨t_34, t_34_tp, qt_34, H⟩ := H
            go_wp2_with fail
            go_at_call 99
            refine (Go.Proofs.Ytkinlkmmelkdnaa.GsL1CurPick.C (c0_c0l1) (2) (g0) (Ac0) (cc0) (bc0) _   Kl1_0 qt_34).mono ?_
            rintro e_t_34 wt_34 ⟨rfl, kt_34, gt_34⟩
            have Kt_34 := Lib.hid kt_34
            have Gt_34 : Hid (wr1.grownBy wt_34 (Value.slice (some ⟨g0, 0, none⟩) 1 1).ownBlock) := Lib.hid gt_34
            clear kt_34 gt_34
            have HBwt_34 := Lib.hid (Aid.grown_tr HBwr1.out Gt_34.out)
            replace Ot_3 := Lib.hid (own_other Ot_3.out Gt_34.out (Apart.symm Dt_3_c0.out))
            replace Oout_3l1 := Lib.hid (own_other Oout_3l1.out Gt_34.out (Apart.symm Dout_3l1_c0.out))
            clear Kl1_0 Gt_34
            replace H := let_hid H
            obtain ⟨t_35, ht_35, H⟩ := H
            replace H := let_hid H
            obtain ⟨t_36, ht_36, H⟩ := H
            cases t_36 with
            | false =>
              replace H := ite_f H
              replace H := app_hid H
              unfold e1 at H
              replace H := unp3_hid H
              cases ret_hid H
              go_wp2_with fail
              go_ret
              exact ⟨Aout_3l1, cout_3l1, rfl, Oout_3l1.out, Kt_34.out, HBwt_34.out⟩
            | true =>
              replace H := ite_t H
              replace H := let_hid H
              obtain ⟨t_40, ht_40, H⟩ := H
              replace H := guard_hid H
              obtain ⟨hl_t_41, H⟩ := H
              replace H := let_hid H
              obtain ⟨t_41, ht_41, H⟩ := H
              have ct_41 := slice_both (P := Try.prog) (t := 9) (k := .i64) (k' := .i64) Try.underlying9 ht_41 hl_t_41
              clear hl_t_41
              have hht_41 := Lib.hid ht_41
              clear ht_41
              replace H := let_hid H
              obtain ⟨t_43, ht_43, H⟩ := H
              replace H := let_hid H
              obtain ⟨t_44, ht_44, H⟩ := H
              obtain ⟨w_t_46, hw_t_46⟩ : ∃ x, wt_34.alloc (.cells #[.string t_41, .int .i64 t_44, .int .i64 10, .int .i64 0, .int .i64 60] 74) = x := ⟨_, rfl⟩
              have bw_t_46 : Below wt_34.heap.size wt_34 w_t_46 := by rw [← hw_t_46]; exact (Below.refl _ _).alloc (Nat.le_refl _) _
              have HBw_t_46 := Lib.hid (grown_below HBwt_34.out bw_t_46)
              replace Ot_3 := Lib.hid (own_below Ot_3.out bw_t_46)
              replace Oout_3l1 := Lib.hid (own_below Oout_3l1.out bw_t_46)
              replace Kt_34 := Lib.hid (Go.Proofs.Ytkinlkmmelkdnaa.GoC.cur_below Kt_34.out bw_t_46)
              clear bw_t_46
              replace H := guard_hid H
              obtain ⟨hlt_47, H⟩ := H
              replace H := let_hid H
              obtain ⟨t_47, ht_47, H⟩ := H
              have hht_47 := Lib.hid ht_47
              clear ht_47
              have hst_47 := HBw_t_46.out.size
              go_wp2_with (at_builtin; refine wpList_append_own_at _ rfl _ _ 63 rfl w.heap.size 74 i0_74 (.agg #[.string ByteArray.empty, .int .i64 0, .int .i64 0, .int .i64 0, .int .i64 0]) 5 48 Try.underlying63 hi_74 hz0_74 hz1_74 hz2_74 rfl (by decide) _ _ _ rfl Oout_3l1.out ⟨wt_34.heap.size, 0, none⟩ 1 1 [.string t_41, .int .i64 t_44, .int .i64 10, .int .i64 0, .int .i64 60] rfl rfl (news_new hw_t_46) (one_cells rfl) (by unfold maxLen; omega) (by omega) hst_47 ?_; intro vt_47 wt_47 ot_47 gt_47 zt_47 yt_47; clear zt_47; obtain ⟨qt_47, ct_47, rfl, pt_47⟩ := own_push hht_47.out (Go.Proofs.Ytkinlkmmelkdnaa.PShade.flat_snoc _ _) rfl ot_47; have Pt_47 := Lib.hid pt_47; have Yt_47 := Lib.hid yt_47; have Gt_47 := Lib.hid gt_47; clear ot_47 gt_47 pt_47 yt_47; refine stop_in ?_)
              refine stop_out ?_
              have HBwt_47 := Lib.hid (Go.Proofs.Ytkinlkmmelkdnaa.GoC.grown_new HBw_t_46.out Gt_47.out (Go.Proofs.Ytkinlkmmelkdnaa.GoC.own_ge Oout_3l1.out))
              clear hst_47
              have Dt_47_t_3 : Hid (Apart (some ⟨qt_47, 0, none⟩) _) := Lib.hid (apart_app Dout_3l1_t_3.out (fun a_ ha_ => (own_lt Ot_3.out a_ ha_).2) Yt_47.out)
              have Dt_47_c0 : Hid (Apart (some ⟨qt_47, 0, none⟩) _) := Lib.hid (apart_app Dout_3l1_c0.out (fun a_ ha_ => by cases ha_; exact (Go.Proofs.Ytkinlkmmelkdnaa.GoC.cur_lt Kt_34.out).2) Yt_47.out)
              replace Ot_3 := Lib.hid (own_other Ot_3.out Gt_47.out Dout_3l1_t_3.out)
              replace Kt_34 := Lib.hid (Go.Proofs.Ytkinlkmmelkdnaa.GoC.cur_otherO Kt_34.out Gt_47.out Dout_3l1_c0.out L0 Oout_3l1.out)
              clear Oout_3l1 Yt_47 Gt_47
              replace H := let_hid H
              obtain ⟨t_50, ht_50, H⟩ := H
              obtain rfl := ht_40.symm.trans ht_50
              replace H := app_hid H
              go_wp2_with fail
              go_roundg m1
              case measure => omega
              case rel => exact ⟨_, _, _, _, _, rfl, rfl, H, HBwt_47, Pt_47, Ot_3, Lib.hid Dt_47_t_3.out, Lib.hid Dt_47_c0.out, Kt_34⟩
    | succ m0 =>
      have hlt0 : k0 < t_3.length := by omega
      have hc0 : decide ((k0 : Int) < ((t_3.length : Nat) : Int)) = true := by simp; omega
      replace H := cnt_succ H
      unfold l0 at H
      replace H := unp2_hid H
      replace H := bind2_hid H
      obtain ⟨t_11, t_11_tp, qt_11, H⟩ := H
      go_wp2_with fail
      go_at_call 98
      refine (Go.Proofs.Ytkinlkmmelkdnaa.GsL1CurOne.C (c0_c0l0) (2) (g0) (Ac0) (cc0) (bc0) _   Kl0_0 qt_11).mono ?_
      rintro e_t_11 wt_11 ⟨rfl, kt_11, gt_11⟩
      have Kt_11 := Lib.hid kt_11
      have Gt_11 : Hid (wr0.grownBy wt_11 (Value.slice (some ⟨g0, 0, none⟩) 1 1).ownBlock) := Lib.hid gt_11
      clear kt_11 gt_11
      have HBwt_11 := Lib.hid (Aid.grown_tr HBwr0.out Gt_11.out)
      replace Ot_3 := Lib.hid (own_other Ot_3.out Gt_11.out (Apart.symm Dt_3_c0.out))
      replace Oout_3l0 := Lib.hid (own_other Oout_3l0.out Gt_11.out (Apart.symm Dout_3l0_c0.out))
      clear Kl0_0 Gt_11
      cases t_11 with
      | false =>
        replace H := ite_f H
        replace H := app_hid H
        go_wp2_with fail
        go_roundg m0
        case measure => omega
        case rel => exact ⟨k0 + 1, _, _, _, _, by omega, by go_num, rfl, H, HBwt_11, Oout_3l0, Ot_3, Lib.hid Dout_3l0_t_3.out, Lib.hid Dout_3l0_c0.out, Kt_11⟩
      | true =>
        replace H := ite_t H
        replace H := idx_hid H
        obtain ⟨nt_16, yt_16, et_16, lt_16, gt_16, H⟩ := H
        obtain rfl : k0 = nt_16 := by omega
        clear et_16
        obtain ⟨ab_t_16, ao_t_16, zt_16, At_16, z_t_16, ct_16_0⟩ := strs_at (own_cells Ot_3.out) (k := k0) (by omega)
        obtain rfl := Option.some.inj (gt_16.out.symm.trans z_t_16)
        simp only [Option.some.injEq, Addr.mk.injEq] at At_16
        obtain ⟨rfl, rfl, _⟩ := At_16
        clear z_t_16
        simp only [Nat.zero_add] at ct_16_0
        have b0t_16 : (0 : Int) ≤ (k0 : Int) := by omega
        have b1t_16 : (k0 : Int) < ((t_3.length : Nat) : Int) := by omega
        have b2t_16 : ((k0 : Int)).toNat = k0 := by omega
        replace H := bind2_hid H
        obtain ⟨t_18, t_18_tp, qt_18, H⟩ := H
        obtain ⟨t_18_name, t_18_hue, t_18_width, t_18_dark, t_18_light⟩ := t_18
        replace H := unShade_hid H
        go_wp2_with fail
        go_at_call 121
        refine (Go.Proofs.Ytkinlkmmelkdnaa.GsL1CurShade7.C (t_11_tp) (yt_16) (g0) (Ac0) (cc0) (bc0) _   Kt_11 qt_18).mono ?_
        rintro e_t_18 wt_18 ⟨rfl, kt_18, gt_18⟩
        unfold Go.Proofs.Ytkinlkmmelkdnaa.PShade.Shade.val
        have Kt_18 := Lib.hid kt_18
        have Gt_18 : Hid (wt_11.grownBy wt_18 (Value.slice (some ⟨g0, 0, none⟩) 1 1).ownBlock) := Lib.hid gt_18
        clear kt_18 gt_18
        have HBwt_18 := Lib.hid (Aid.grown_tr HBwt_11.out Gt_18.out)
        replace ct_16_0 := cell_other ct_16_0 Gt_18.out (Apart.symm Dt_3_c0.out)
        replace Ot_3 := Lib.hid (own_other Ot_3.out Gt_18.out (Apart.symm Dt_3_c0.out))
        replace Oout_3l0 := Lib.hid (own_other Oout_3l0.out Gt_18.out (Apart.symm Dout_3l0_c0.out))
        clear Kt_11 Gt_18
        obtain ⟨w_t_19, hw_t_19⟩ : ∃ x, wt_18.alloc (.cells #[.string t_18_name, .int .i64 t_18_hue, .int .i64 t_18_width, .int .i64 t_18_dark, .int .i64 t_18_light] 74) = x := ⟨_, rfl⟩
        have bw_t_19 : Below wt_18.heap.size wt_18 w_t_19 := by rw [← hw_t_19]; exact (Below.refl _ _).alloc (Nat.le_refl _) _
        have HBw_t_19 := Lib.hid (grown_below HBwt_18.out bw_t_19)
        have ct_16_0__377 := cell_below bw_t_19 ct_16_0
        replace Ot_3 := Lib.hid (own_below Ot_3.out bw_t_19)
        replace Oout_3l0 := Lib.hid (own_below Oout_3l0.out bw_t_19)
        replace Kt_18 := Lib.hid (Go.Proofs.Ytkinlkmmelkdnaa.GoC.cur_below Kt_18.out bw_t_19)
        clear bw_t_19
        replace H := guard_hid H
        obtain ⟨hlt_20, H⟩ := H
        replace H := let_hid H
        obtain ⟨t_20, ht_20, H⟩ := H
        have hht_20 := Lib.hid ht_20
        clear ht_20
        have hst_20 := HBw_t_19.out.size
        go_wp2_with (at_builtin; refine wpList_append_own_at _ rfl _ _ 63 rfl w.heap.size 74 i0_74 (.agg #[.string ByteArray.empty, .int .i64 0, .int .i64 0, .int .i64 0, .int .i64 0]) 5 48 Try.underlying63 hi_74 hz0_74 hz1_74 hz2_74 rfl (by decide) _ _ _ rfl Oout_3l0.out ⟨wt_18.heap.size, 0, none⟩ 1 1 [.string t_18_name, .int .i64 t_18_hue, .int .i64 t_18_width, .int .i64 t_18_dark, .int .i64 t_18_light] rfl rfl (news_new hw_t_19) (one_cells rfl) (by unfold maxLen; omega) (by omega) hst_20 ?_; intro vt_20 wt_20 ot_20 gt_20 zt_20 yt_20; clear zt_20; obtain ⟨qt_20, ct_20, rfl, pt_20⟩ := own_push hht_20.out (Go.Proofs.Ytkinlkmmelkdnaa.PShade.flat_snoc _ _) rfl ot_20; have Pt_20 := Lib.hid pt_20; have Yt_20 := Lib.hid yt_20; have Gt_20 := Lib.hid gt_20; clear ot_20 gt_20 pt_20 yt_20; refine stop_in ?_)
        refine stop_out ?_
        have HBwt_20 := Lib.hid (Go.Proofs.Ytkinlkmmelkdnaa.GoC.grown_new HBw_t_19.out Gt_20.out (Go.Proofs.Ytkinlkmmelkdnaa.GoC.own_ge Oout_3l0.out))
        clear hst_20
        have Dt_20_t_3 : Hid (Apart (some ⟨qt_20, 0, none⟩) _) := Lib.hid (apart_app Dout_3l0_t_3.out (fun a_ ha_ => (own_lt Ot_3.out a_ ha_).2) Yt_20.out)
        have Dt_20_c0 : Hid (Apart (some ⟨qt_20, 0, none⟩) _) := Lib.hid (apart_app Dout_3l0_c0.out (fun a_ ha_ => by cases ha_; exact (Go.Proofs.Ytkinlkmmelkdnaa.GoC.cur_lt Kt_18.out).2) Yt_20.out)
        replace ct_16_0__377 := cell_other ct_16_0__377 Gt_20.out Dout_3l0_t_3.out
        replace Ot_3 := Lib.hid (own_other Ot_3.out Gt_20.out Dout_3l0_t_3.out)
        replace Kt_18 := Lib.hid (Go.Proofs.Ytkinlkmmelkdnaa.GoC.cur_otherO Kt_18.out Gt_20.out Dout_3l0_c0.out L0 Oout_3l0.out)
        clear ct_16_0
        clear Oout_3l0 Yt_20 Gt_20
        replace H := app_hid H
        go_wp2_with fail
        go_roundg m0
        case measure => omega
        case rel => exact ⟨k0 + 1, _, _, _, _, by omega, by go_num, rfl, H, HBwt_20, Pt_20, Ot_3, Lib.hid Dt_20_t_3.out, Lib.hid Dt_20_c0.out, Kt_18⟩
end Go.Proofs.Ytkinlkmmelkdnaa.GsL1CurShades7

/- (*loop.example/g01062/spec.l1Cur).hue7 as a plain function, and the contract of the program's: where the plain one has an answer, the program has it. Conditions: slices read as lists. -/
namespace Go.Proofs.Ytkinlkmmelkdnaa.GsL1CurHue7
set_option linter.unusedVariables false
set_option linter.unusedSimpArgs false
open Go.RowKit
open Go.Proofs.Ytkinlkmmelkdnaa.Rowed Go.Proofs.Ytkinlkmmelkdnaa.Turn Go.Proofs.Ytkinlkmmelkdnaa.Aid Go.Proofs.Ytkinlkmmelkdnaa.GoP Go.Proofs.Ytkinlkmmelkdnaa.GoM

def P (c : Go.Proofs.Ytkinlkmmelkdnaa.GoC.Tape) : Option (Int × Go.Proofs.Ytkinlkmmelkdnaa.GoC.Tape) :=
  letK ([0, 1, 10, 20, 90, 179, 180, 181, 270, 350, 359, (-1), 360]) fun (t_2 : (List Int)) =>
  bind2 (Go.Proofs.Ytkinlkmmelkdnaa.GsL1CurPick.P c 24) fun (t_4 : Int) (t_4_tp : Go.Proofs.Ytkinlkmmelkdnaa.GoC.Tape) =>
  letK (IntKind.i64.wrap (Int.tdiv t_4 11)) fun (t_5 : Int) =>
  letK (IntKind.i64.wrap (11 + t_5)) fun (t_6 : Int) =>
  guardK ((0 : Int) ≤ t_6 ∧ (t_6 : Int) ≤ (t_2.length : Int)) <|
  letK (List.take (Int.toNat t_6) t_2) fun (t_7 : (List Int)) =>
  bind2 (Go.Proofs.Ytkinlkmmelkdnaa.GsL1CurAmong.P t_4_tp t_7) fun (t_8 : Int) (t_8_tp : Go.Proofs.Ytkinlkmmelkdnaa.GoC.Tape) =>
  some (t_8, t_8_tp)

set_option maxRecDepth 100000 in
set_option maxHeartbeats 2000000 in
theorem C (c : Go.Proofs.Ytkinlkmmelkdnaa.GoC.Tape)   (g0 : Nat) (Ac0 : Option Addr) (cc0 : Nat) (bc0 : Nat) (w : World)   (K0 : Hid (Go.Proofs.Ytkinlkmmelkdnaa.GoC.CurIs w bc0 g0 Ac0 cc0 c)) {r : Int} {t_ : Go.Proofs.Ytkinlkmmelkdnaa.GoC.Tape} (H : Hid (P c = some (r, t_))) :
    Calls Try.prog 134 #[.pointer (some ⟨g0, 0, none⟩)] w (fun e w' => e = .returned (.int .i64 r) ∧ Go.Proofs.Ytkinlkmmelkdnaa.GoC.CurIs w' bc0 g0 Ac0 cc0 t_ ∧ w.grownBy w' (Value.slice (some ⟨g0, 0, none⟩) 1 1).ownBlock) := by
  have HB := Lib.hid (Aid.grown_refl w (Value.slice (some ⟨g0, 0, none⟩) 1 1).ownBlock)
  unfold P at H
  have L0 : bc0 ≤ w.heap.size := by have := Go.Proofs.Ytkinlkmmelkdnaa.GoC.cur_lt K0.out; omega
  obtain ⟨i0_3, hi_3, hz0_3, hz1_3, hz2_3⟩ := Aid.info_parts (P := Try.prog) (T := 3) (z := .int .i64 0) (s := 1) (b := 8) (by kernel_rfl)
  go_enter Try.func134, Try.ntmps134
  replace H := let_hid H
  obtain ⟨t_2, ht_2, H⟩ := H
  obtain ⟨w_t_2, hw_t_2⟩ : ∃ x, w.alloc (.cells #[.int .i64 0, .int .i64 1, .int .i64 10, .int .i64 20, .int .i64 90, .int .i64 179, .int .i64 180, .int .i64 181, .int .i64 270, .int .i64 350, .int .i64 359, .int .i64 (-1), .int .i64 360] 3) = x := ⟨_, rfl⟩
  have bw_t_2 : Below w.heap.size w w_t_2 := by rw [← hw_t_2]; exact (Below.refl _ _).alloc (Nat.le_refl _) _
  have hs_t_2 := HB.out.size
  have nt_2 : t_2.length = 13 := by rw [← ht_2]; rfl
  have Ot_2 : Hid (w_t_2.ownsRow w.heap.size 3 1 (.slice (some ⟨w.heap.size, 0, none⟩) 13 13) 13 (Go.Proofs.Ytkinlkmmelkdnaa.HelpInt.iv t_2)) := by
    rw [← hw_t_2, ← ht_2]
    have e_ : ([.int .i64 0, .int .i64 1, .int .i64 10, .int .i64 20, .int .i64 90, .int .i64 179, .int .i64 180, .int .i64 181, .int .i64 270, .int .i64 350, .int .i64 359, .int .i64 (-1), .int .i64 360] : List Value) = (Go.Proofs.Ytkinlkmmelkdnaa.HelpInt.iv ([0, 1, 10, 20, 90, 179, 180, 181, 270, 350, 359, (-1), 360] : List Int)) := rfl
    exact Lib.hid (own_laid (n := 13) hs_t_2 e_ rfl (by unfold maxLen; omega))
  clear hs_t_2
  have hht_2 := Lib.hid ht_2
  clear ht_2
  replace nt_2 := Lib.hid nt_2
  have Dt_2_c0 := Lib.hid (Go.Proofs.Ytkinlkmmelkdnaa.GoC.apart_cur K0.out)
  have HBw_t_2 := Lib.hid (grown_below HB.out bw_t_2)
  replace K0 := Lib.hid (Go.Proofs.Ytkinlkmmelkdnaa.GoC.cur_below K0.out bw_t_2)
  clear bw_t_2
  replace H := bind2_hid H
  obtain ⟨t_4, t_4_tp, qt_4, H⟩ := H
  go_wp2_with fail
  go_at_call 99
  refine (Go.Proofs.Ytkinlkmmelkdnaa.GsL1CurPick.C (c) (24) (g0) (Ac0) (cc0) (bc0) _   K0 qt_4).mono ?_
  rintro e_t_4 wt_4 ⟨rfl, kt_4, gt_4⟩
  have Kt_4 := Lib.hid kt_4
  have Gt_4 : Hid (w_t_2.grownBy wt_4 (Value.slice (some ⟨g0, 0, none⟩) 1 1).ownBlock) := Lib.hid gt_4
  clear kt_4 gt_4
  have HBwt_4 := Lib.hid (Aid.grown_tr HBw_t_2.out Gt_4.out)
  replace Ot_2 := Lib.hid (own_other Ot_2.out Gt_4.out (Apart.symm Dt_2_c0.out))
  clear K0 Gt_4
  replace H := let_hid H
  obtain ⟨t_5, ht_5, H⟩ := H
  replace H := let_hid H
  obtain ⟨t_6, ht_6, H⟩ := H
  replace H := guard_hid H
  obtain ⟨hl_t_7, H⟩ := H
  replace H := let_hid H
  obtain ⟨t_7, ht_7, H⟩ := H
  have dt_7 : ((Go.Proofs.Ytkinlkmmelkdnaa.HelpInt.iv t_2)).take (Int.toNat t_6 * 1) = (Go.Proofs.Ytkinlkmmelkdnaa.HelpInt.iv t_7) := by
    rw [← ht_7]
    simp [Go.Proofs.Ytkinlkmmelkdnaa.HelpInt.iv, List.map_take]
  have nt_7 : Int.toNat t_6 = t_7.length := by rw [← ht_7, List.length_take]; have h_ := nt_2.out; omega
  replace hl_t_7 : (0 : Int) ≤ t_6 ∧ (t_6 : Int) ≤ ((13 : Nat) : Int) := by have h_ := nt_2.out; omega
  obtain ⟨rt_7, Ot_7⟩ := slice_head (P := Try.prog) (t := 45) (e := 3) (k := .i64) (by kernel_rfl) (by kernel_rfl) hi_3 hz1_3 Ot_2.out hl_t_7 nt_7 dt_7
  replace Ot_7 := Lib.hid Ot_7
  clear dt_7 nt_7 hl_t_7
  have hht_7 := Lib.hid ht_7
  clear ht_7
  replace H := bind2_hid H
  obtain ⟨t_8, t_8_tp, qt_8, H⟩ := H
  go_wp2_with fail
  go_at_call 97
  refine (Go.Proofs.Ytkinlkmmelkdnaa.GsL1CurAmong.C (t_4_tp) (t_7) (some ⟨w.heap.size, 0, none⟩) 13 (g0) (Ac0) (cc0) (bc0) _   (Lib.hid (own_cells Ot_7.out)) (Lib.hid (own_max Ot_7.out)) Kt_4 (Lib.hid (fun _ => Dt_2_c0.out)) qt_8).mono ?_
  rintro e_t_8 wt_8 ⟨rfl, kt_8, gt_8⟩
  have Kt_8 := Lib.hid kt_8
  have Gt_8 : Hid (wt_4.grownBy wt_8 (Value.slice (some ⟨g0, 0, none⟩) 1 1).ownBlock) := Lib.hid gt_8
  clear kt_8 gt_8
  have HBwt_8 := Lib.hid (Aid.grown_tr HBwt_4.out Gt_8.out)
  replace Ot_7 := Lib.hid (own_other Ot_7.out Gt_8.out (Apart.symm Dt_2_c0.out))
  clear Kt_4 Gt_8
  cases ret_hid H
  go_wp2_with fail
  go_ret
  exact ⟨rfl, Kt_8.out, HBwt_8.out⟩
end Go.Proofs.Ytkinlkmmelkdnaa.GsL1CurHue7

/- (*loop.example/g01062/spec.l1Cur).light7 as a plain function, and the contract of the program's: where the plain one has an answer, the program has it. Conditions: slices read as lists. -/
namespace Go.Proofs.Ytkinlkmmelkdnaa.GsL1CurLight7
set_option linter.unusedVariables false
set_option linter.unusedSimpArgs false
open Go.RowKit
open Go.Proofs.Ytkinlkmmelkdnaa.Rowed Go.Proofs.Ytkinlkmmelkdnaa.Turn Go.Proofs.Ytkinlkmmelkdnaa.Aid Go.Proofs.Ytkinlkmmelkdnaa.GoP Go.Proofs.Ytkinlkmmelkdnaa.GoM

def P (c : Go.Proofs.Ytkinlkmmelkdnaa.GoC.Tape) : Option (Int × Go.Proofs.Ytkinlkmmelkdnaa.GoC.Tape) :=
  letK ([0, 30, 49, 50, 51, 70, 100, (-1), 101]) fun (t_2 : (List Int)) =>
  bind2 (Go.Proofs.Ytkinlkmmelkdnaa.GsL1CurPick.P c 24) fun (t_4 : Int) (t_4_tp : Go.Proofs.Ytkinlkmmelkdnaa.GoC.Tape) =>
  letK (IntKind.i64.wrap (Int.tdiv t_4 11)) fun (t_5 : Int) =>
  letK (IntKind.i64.wrap (7 + t_5)) fun (t_6 : Int) =>
  guardK ((0 : Int) ≤ t_6 ∧ (t_6 : Int) ≤ (t_2.length : Int)) <|
  letK (List.take (Int.toNat t_6) t_2) fun (t_7 : (List Int)) =>
  bind2 (Go.Proofs.Ytkinlkmmelkdnaa.GsL1CurAmong.P t_4_tp t_7) fun (t_8 : Int) (t_8_tp : Go.Proofs.Ytkinlkmmelkdnaa.GoC.Tape) =>
  some (t_8, t_8_tp)

set_option maxRecDepth 100000 in
set_option maxHeartbeats 2000000 in
theorem C (c : Go.Proofs.Ytkinlkmmelkdnaa.GoC.Tape)   (g0 : Nat) (Ac0 : Option Addr) (cc0 : Nat) (bc0 : Nat) (w : World)   (K0 : Hid (Go.Proofs.Ytkinlkmmelkdnaa.GoC.CurIs w bc0 g0 Ac0 cc0 c)) {r : Int} {t_ : Go.Proofs.Ytkinlkmmelkdnaa.GoC.Tape} (H : Hid (P c = some (r, t_))) :
    Calls Try.prog 135 #[.pointer (some ⟨g0, 0, none⟩)] w (fun e w' => e = .returned (.int .i64 r) ∧ Go.Proofs.Ytkinlkmmelkdnaa.GoC.CurIs w' bc0 g0 Ac0 cc0 t_ ∧ w.grownBy w' (Value.slice (some ⟨g0, 0, none⟩) 1 1).ownBlock) := by
  have HB := Lib.hid (Aid.grown_refl w (Value.slice (some ⟨g0, 0, none⟩) 1 1).ownBlock)
  unfold P at H
  have L0 : bc0 ≤ w.heap.size := by have := Go.Proofs.Ytkinlkmmelkdnaa.GoC.cur_lt K0.out; omega
  obtain ⟨i0_3, hi_3, hz0_3, hz1_3, hz2_3⟩ := Aid.info_parts (P := Try.prog) (T := 3) (z := .int .i64 0) (s := 1) (b := 8) (by kernel_rfl)
  go_enter Try.func135, Try.ntmps135
  replace H := let_hid H
  obtain ⟨t_2, ht_2, H⟩ := H
  obtain ⟨w_t_2, hw_t_2⟩ : ∃ x, w.alloc (.cells #[.int .i64 0, .int .i64 30, .int .i64 49, .int .i64 50, .int .i64 51, .int .i64 70, .int .i64 100, .int .i64 (-1), .int .i64 101] 3) = x := ⟨_, rfl⟩
  have bw_t_2 : Below w.heap.size w w_t_2 := by rw [← hw_t_2]; exact (Below.refl _ _).alloc (Nat.le_refl _) _
  have hs_t_2 := HB.out.size
  have nt_2 : t_2.length = 9 := by rw [← ht_2]; rfl
  have Ot_2 : Hid (w_t_2.ownsRow w.heap.size 3 1 (.slice (some ⟨w.heap.size, 0, none⟩) 9 9) 9 (Go.Proofs.Ytkinlkmmelkdnaa.HelpInt.iv t_2)) := by
    rw [← hw_t_2, ← ht_2]
    have e_ : ([.int .i64 0, .int .i64 30, .int .i64 49, .int .i64 50, .int .i64 51, .int .i64 70, .int .i64 100, .int .i64 (-1), .int .i64 101] : List Value) = (Go.Proofs.Ytkinlkmmelkdnaa.HelpInt.iv ([0, 30, 49, 50, 51, 70, 100, (-1), 101] : List Int)) := rfl
    exact Lib.hid (own_laid (n := 9) hs_t_2 e_ rfl (by unfold maxLen; omega))
  clear hs_t_2
  have hht_2 := Lib.hid ht_2
  clear ht_2
  replace nt_2 := Lib.hid nt_2
  have Dt_2_c0 := Lib.hid (Go.Proofs.Ytkinlkmmelkdnaa.GoC.apart_cur K0.out)
  have HBw_t_2 := Lib.hid (grown_below HB.out bw_t_2)
  replace K0 := Lib.hid (Go.Proofs.Ytkinlkmmelkdnaa.GoC.cur_below K0.out bw_t_2)
  clear bw_t_2
  replace H := bind2_hid H
  obtain ⟨t_4, t_4_tp, qt_4, H⟩ := H
  go_wp2_with fail
  go_at_call 99
  refine (Go.Proofs.Ytkinlkmmelkdnaa.GsL1CurPick.C (c) (24) (g0) (Ac0) (cc0) (bc0) _   K0 qt_4).mono ?_
  rintro e_t_4 wt_4 ⟨rfl, kt_4, gt_4⟩
  have Kt_4 := Lib.hid kt_4
  have Gt_4 : Hid (w_t_2.grownBy wt_4 (Value.slice (some ⟨g0, 0, none⟩) 1 1).ownBlock) := Lib.hid gt_4
  clear kt_4 gt_4
  have HBwt_4 := Lib.hid (Aid.grown_tr HBw_t_2.out Gt_4.out)
  replace Ot_2 := Lib.hid (own_other Ot_2.out Gt_4.out (Apart.symm Dt_2_c0.out))
  clear K0 Gt_4
  replace H := let_hid H
  obtain ⟨t_5, ht_5, H⟩ := H
  replace H := let_hid H
  obtain ⟨t_6, ht_6, H⟩ := H
  replace H := guard_hid H
  obtain ⟨hl_t_7, H⟩ := H
  replace H := let_hid H
  obtain ⟨t_7, ht_7, H⟩ := H
  have dt_7 : ((Go.Proofs.Ytkinlkmmelkdnaa.HelpInt.iv t_2)).take (Int.toNat t_6 * 1) = (Go.Proofs.Ytkinlkmmelkdnaa.HelpInt.iv t_7) := by
    rw [← ht_7]
    simp [Go.Proofs.Ytkinlkmmelkdnaa.HelpInt.iv, List.map_take]
  have nt_7 : Int.toNat t_6 = t_7.length := by rw [← ht_7, List.length_take]; have h_ := nt_2.out; omega
  replace hl_t_7 : (0 : Int) ≤ t_6 ∧ (t_6 : Int) ≤ ((9 : Nat) : Int) := by have h_ := nt_2.out; omega
  obtain ⟨rt_7, Ot_7⟩ := slice_head (P := Try.prog) (t := 45) (e := 3) (k := .i64) (by kernel_rfl) (by kernel_rfl) hi_3 hz1_3 Ot_2.out hl_t_7 nt_7 dt_7
  replace Ot_7 := Lib.hid Ot_7
  clear dt_7 nt_7 hl_t_7
  have hht_7 := Lib.hid ht_7
  clear ht_7
  replace H := bind2_hid H
  obtain ⟨t_8, t_8_tp, qt_8, H⟩ := H
  go_wp2_with fail
  go_at_call 97
  refine (Go.Proofs.Ytkinlkmmelkdnaa.GsL1CurAmong.C (t_4_tp) (t_7) (some ⟨w.heap.size, 0, none⟩) 9 (g0) (Ac0) (cc0) (bc0) _   (Lib.hid (own_cells Ot_7.out)) (Lib.hid (own_max Ot_7.out)) Kt_4 (Lib.hid (fun _ => Dt_2_c0.out)) qt_8).mono ?_
  rintro e_t_8 wt_8 ⟨rfl, kt_8, gt_8⟩
  have Kt_8 := Lib.hid kt_8
  have Gt_8 : Hid (wt_4.grownBy wt_8 (Value.slice (some ⟨g0, 0, none⟩) 1 1).ownBlock) := Lib.hid gt_8
  clear kt_8 gt_8
  have HBwt_8 := Lib.hid (Aid.grown_tr HBwt_4.out Gt_8.out)
  replace Ot_7 := Lib.hid (own_other Ot_7.out Gt_8.out (Apart.symm Dt_2_c0.out))
  clear Kt_4 Gt_8
  cases ret_hid H
  go_wp2_with fail
  go_ret
  exact ⟨rfl, Kt_8.out, HBwt_8.out⟩
end Go.Proofs.Ytkinlkmmelkdnaa.GsL1CurLight7

/- loop.example/g01062/spec.DrawShadesOf as a plain function, and the contract of the program's: where the plain one has an answer, the program has it. Conditions: slices read as lists. -/
namespace Go.Proofs.Ytkinlkmmelkdnaa.GsDrawShadesOf
set_option linter.unusedVariables false
set_option linter.unusedSimpArgs false
open Go.RowKit
open Go.Proofs.Ytkinlkmmelkdnaa.Rowed Go.Proofs.Ytkinlkmmelkdnaa.Turn Go.Proofs.Ytkinlkmmelkdnaa.Aid Go.Proofs.Ytkinlkmmelkdnaa.GoP Go.Proofs.Ytkinlkmmelkdnaa.GoM

def P (fuel : Nat) (tapes : List Int → Go.Proofs.Ytkinlkmmelkdnaa.GoC.Tape) (code : (List Int)) : Option ((List Go.Proofs.Ytkinlkmmelkdnaa.PShade.Shade) × Int × Int) :=
  letK (tapes code) fun (t_5 : Go.Proofs.Ytkinlkmmelkdnaa.GoC.Tape) =>
  bind2 (Go.Proofs.Ytkinlkmmelkdnaa.GsL1CurShades7.P fuel t_5) fun (t_8 : (List Go.Proofs.Ytkinlkmmelkdnaa.PShade.Shade)) (t_8_tp : Go.Proofs.Ytkinlkmmelkdnaa.GoC.Tape) =>
  bind2 (Go.Proofs.Ytkinlkmmelkdnaa.GsL1CurHue7.P t_8_tp) fun (t_10 : Int) (t_10_tp : Go.Proofs.Ytkinlkmmelkdnaa.GoC.Tape) =>
  bind2 (Go.Proofs.Ytkinlkmmelkdnaa.GsL1CurLight7.P t_10_tp) fun (t_12 : Int) (t_12_tp : Go.Proofs.Ytkinlkmmelkdnaa.GoC.Tape) =>
  some (t_8, t_10, t_12)

set_option maxRecDepth 100000 in
set_option maxHeartbeats 2000000 in
theorem C (fuel : Nat) (tapes : List Int → Go.Proofs.Ytkinlkmmelkdnaa.GoC.Tape) (code : (List Int)) (A0 : Option Addr) (c0 : Nat)  (w : World) (HE : Hid (Go.Proofs.Ytkinlkmmelkdnaa.GoC.Tells tapes)) (M0 : Hid (Cells w 1 A0 code.length (Go.Proofs.Ytkinlkmmelkdnaa.GoC.u8s code))) (N0 : Hid (code.length ≤ 9223372036854775807)) (V0 : Hid (∀ z ∈ code, 0 ≤ z ∧ z ≤ 255))  {r0 : (List Go.Proofs.Ytkinlkmmelkdnaa.PShade.Shade)} {r1 : Int} {r2 : Int} (H : Hid (P fuel tapes code = some (r0, r1, r2))) :
    Calls Try.prog 102 #[.slice A0 code.length c0] w (fun e w' => ∃ A_r0 c_r0, e = .returned (.tuple #[.slice A_r0 r0.length c_r0, .int .i64 r1, .int .i64 r2]) ∧ w'.ownsRow w.heap.size 74 5 (.slice A_r0 r0.length c_r0) r0.length (Go.Proofs.Ytkinlkmmelkdnaa.PShade.flat r0) ∧ Below w.heap.size w w') := by
  have HB := Lib.hid (Below.refl w.heap.size w)
  unfold P at H
  have N0o := N0.out
  go_enter Try.func102, Try.ntmps102
  replace H := let_hid H
  obtain ⟨t_5, ht_5, H⟩ := H
  obtain ⟨w_t_5, hw_t_5⟩ : ∃ x, w.alloc (.cells #[.slice A0 code.length c0, .int .i64 0, .int .u64 0] 103) = x := ⟨_, rfl⟩
  have bw_t_5 : Below w.heap.size w w_t_5 := by rw [← hw_t_5]; exact (Below.refl _ _).alloc (Nat.le_refl _) _
  have Kt_5 : Hid (Go.Proofs.Ytkinlkmmelkdnaa.GoC.CurIs w_t_5 w.heap.size w.heap.size A0 c0 t_5) := Lib.hid (by rw [← hw_t_5, ← ht_5]; exact Go.Proofs.Ytkinlkmmelkdnaa.GoC.cur_new HB.out.size (Cells.below M0.out HB.out) (fun a_ ha_ h0_ => by subst ha_; exact Go.Proofs.Ytkinlkmmelkdnaa.GoC.cells_lt M0.out (by unfold Go.Proofs.Ytkinlkmmelkdnaa.GoC.u8s; rw [List.length_map]; exact h0_)) (HE.out.2.2 code V0.out N0.out))
  have hht_5 := Lib.hid ht_5
  clear ht_5
  have HBw_t_5 := Lib.hid (Below.step HB.out bw_t_5)
  clear bw_t_5
  replace H := bind2_hid H
  obtain ⟨t_8, t_8_tp, qt_8, H⟩ := H
  go_wp2_with fail
  go_at_call 133
  refine (Go.Proofs.Ytkinlkmmelkdnaa.GsL1CurShades7.C fuel (t_5) (w.heap.size) (A0) (c0) (w.heap.size) _   Kt_5 qt_8).mono ?_
  rintro e_t_8 wt_8 ⟨At_8, ct_8, rfl, ot_8, kt_8, gt_8⟩
  have Dt_8_t_5 := Lib.hid (Go.Proofs.Ytkinlkmmelkdnaa.GoC.apart_callcur ot_8 Kt_5.out)
  have Ot_8 := Lib.hid (own_lower ot_8 HBw_t_5.out.size)
  clear ot_8
  have Kt_8 := Lib.hid kt_8
  have Gt_8 : Hid (w_t_5.grownBy wt_8 (Value.slice (some ⟨w.heap.size, 0, none⟩) 1 1).ownBlock) := Lib.hid gt_8
  clear kt_8 gt_8
  have HBwt_8 := Lib.hid (Go.Proofs.Ytkinlkmmelkdnaa.GoC.below_cur HBw_t_5.out Gt_8.out HBw_t_5.out.size (Go.Proofs.Ytkinlkmmelkdnaa.GoC.cur_lt Kt_5.out).1)
  clear Kt_5 Gt_8
  replace H := bind2_hid H
  obtain ⟨t_10, t_10_tp, qt_10, H⟩ := H
  go_wp2_with fail
  go_at_call 134
  refine (Go.Proofs.Ytkinlkmmelkdnaa.GsL1CurHue7.C (t_8_tp) (w.heap.size) (A0) (c0) (w.heap.size) _   Kt_8 qt_10).mono ?_
  rintro e_t_10 wt_10 ⟨rfl, kt_10, gt_10⟩
  have Kt_10 := Lib.hid kt_10
  have Gt_10 : Hid (wt_8.grownBy wt_10 (Value.slice (some ⟨w.heap.size, 0, none⟩) 1 1).ownBlock) := Lib.hid gt_10
  clear kt_10 gt_10
  have HBwt_10 := Lib.hid (Go.Proofs.Ytkinlkmmelkdnaa.GoC.below_cur HBwt_8.out Gt_10.out HBwt_8.out.size (Go.Proofs.Ytkinlkmmelkdnaa.GoC.cur_lt Kt_8.out).1)
  replace Ot_8 := Lib.hid (own_other Ot_8.out Gt_10.out (Apart.symm Dt_8_t_5.out))
  clear Kt_8 Gt_10
  replace H := bind2_hid H
  obtain ⟨t_12, t_12_tp, qt_12, H⟩ := H
  go_wp2_with fail
  go_at_call 135
  refine (Go.Proofs.Ytkinlkmmelkdnaa.GsL1CurLight7.C (t_10_tp) (w.heap.size) (A0) (c0) (w.heap.size) _   Kt_10 qt_12).mono ?_
  rintro e_t_12 wt_12 ⟨rfl, kt_12, gt_12⟩
  have Kt_12 := Lib.hid kt_12
  have Gt_12 : Hid (wt_10.grownBy wt_12 (Value.slice (some ⟨w.heap.size, 0, none⟩) 1 1).ownBlock) := Lib.hid gt_12
  clear kt_12 gt_12
  have HBwt_12 := Lib.hid (Go.Proofs.Ytkinlkmmelkdnaa.GoC.below_cur HBwt_10.out Gt_12.out HBwt_10.out.size (Go.Proofs.Ytkinlkmmelkdnaa.GoC.cur_lt Kt_10.out).1)
  replace Ot_8 := Lib.hid (own_other Ot_8.out Gt_12.out (Apart.symm Dt_8_t_5.out))
  clear Kt_10 Gt_12
  cases ret_hid H
  go_wp2_with fail
  go_ret3
  exact ⟨At_8, ct_8, rfl, Ot_8.out, HBwt_12.out⟩
end Go.Proofs.Ytkinlkmmelkdnaa.GsDrawShadesOf

/- loop.example/g01062/spec.DrawBestShade as a plain function, and the contract of the program's: where the plain one has an answer, the program has it. Conditions: slices read as lists. -/
namespace Go.Proofs.Ytkinlkmmelkdnaa.GsDrawBestShade
set_option linter.unusedVariables false
set_option linter.unusedSimpArgs false
open Go.RowKit
open Go.Proofs.Ytkinlkmmelkdnaa.Rowed Go.Proofs.Ytkinlkmmelkdnaa.Turn Go.Proofs.Ytkinlkmmelkdnaa.Aid Go.Proofs.Ytkinlkmmelkdnaa.GoP Go.Proofs.Ytkinlkmmelkdnaa.GoM

def P (fuel : Nat) (tapes : List Int → Go.Proofs.Ytkinlkmmelkdnaa.GoC.Tape) (code : (List Int)) : Option ((List Go.Proofs.Ytkinlkmmelkdnaa.PShade.Shade) × Int × Int) :=
  bind3 (Go.Proofs.Ytkinlkmmelkdnaa.GsDrawShadesOf.P fuel tapes code) fun (t_4a : (List Go.Proofs.Ytkinlkmmelkdnaa.PShade.Shade)) (t_4b : Int) (t_4c : Int) =>
  some (t_4a, t_4b, t_4c)

set_option maxRecDepth 100000 in
set_option maxHeartbeats 2000000 in
theorem C (fuel : Nat) (tapes : List Int → Go.Proofs.Ytkinlkmmelkdnaa.GoC.Tape) (code : (List Int)) (A0 : Option Addr) (c0 : Nat)  (w : World) (HE : Hid (Go.Proofs.Ytkinlkmmelkdnaa.GoC.Tells tapes)) (M0 : Hid (Cells w 1 A0 code.length (Go.Proofs.Ytkinlkmmelkdnaa.GoC.u8s code))) (N0 : Hid (code.length ≤ 9223372036854775807)) (V0 : Hid (∀ z ∈ code, 0 ≤ z ∧ z ≤ 255))  {r0 : (List Go.Proofs.Ytkinlkmmelkdnaa.PShade.Shade)} {r1 : Int} {r2 : Int} (H : Hid (P fuel tapes code = some (r0, r1, r2))) :
    Calls Try.prog 52 #[.slice A0 code.length c0] w (fun e w' => ∃ A_r0 c_r0, e = .returned (.tuple #[.slice A_r0 r0.length c_r0, .int .i64 r1, .int .i64 r2]) ∧ w'.ownsRow w.heap.size 74 5 (.slice A_r0 r0.length c_r0) r0.length (Go.Proofs.Ytkinlkmmelkdnaa.PShade.flat r0) ∧ Below w.heap.size w w') := by
  have HB := Lib.hid (Below.refl w.heap.size w)
  unfold P at H
  have N0o := N0.out
  go_enter Try.func52, Try.ntmps52
  replace H := bind3_hid H
  obtain ⟨t_4a, t_4b, t_4c, qt_4, H⟩ := H
  go_wp2_with fail
  go_at_call 102
  refine (Go.Proofs.Ytkinlkmmelkdnaa.GsDrawShadesOf.C fuel tapes (code) A0 c0 _  HE (Lib.hid (Cells.below M0.out HB.out)) N0 V0 qt_4).mono ?_
  rintro e_t_4 wt_4 ⟨At_4a, ct_4a, rfl, ot_4a, bt_4⟩
  have Ot_4a := Lib.hid (own_lower ot_4a HB.out.size)
  clear ot_4a
  have HBwt_4 := Lib.hid (Below.step HB.out bt_4)
  clear bt_4
  cases ret_hid H
  go_wp2_with fail
  go_ret3
  exact ⟨At_4a, ct_4a, rfl, Ot_4a.out, HBwt_4.out⟩
end Go.Proofs.Ytkinlkmmelkdnaa.GsDrawBestShade

/- loop.example/g01062/impl.within as a plain function, and the contract of the program's: where the plain one has an answer, the program has it. Conditions: slices read as lists. -/
namespace Go.Proofs.Ytkinlkmmelkdnaa.GiWithin
set_option linter.unusedVariables false
set_option linter.unusedSimpArgs false
open Go.RowKit
open Go.Proofs.Ytkinlkmmelkdnaa.Rowed Go.Proofs.Ytkinlkmmelkdnaa.Turn Go.Proofs.Ytkinlkmmelkdnaa.Aid Go.Proofs.Ytkinlkmmelkdnaa.GoP Go.Proofs.Ytkinlkmmelkdnaa.GoM

def P (n_0 : Int) (low : Int) (high : Int) : Option (Bool) :=
  letK (decide (low ≤ n_0)) fun (t_3 : Bool) =>
  joinK (fun (t_8 : Bool) =>
  some t_8) fun jt_8 => iteK t_3 (letK (decide (n_0 ≤ high)) fun (t_7 : Bool) =>
  appK jt_8 t_7) (appK jt_8 false)

set_option maxRecDepth 100000 in
set_option maxHeartbeats 2000000 in
theorem C (n_0 : Int) (low : Int) (high : Int)   (w : World)   {r : Bool} (H : Hid (P n_0 low high = some r)) :
    Calls Try.prog 86 #[.int .i64 n_0, .int .i64 low, .int .i64 high] w (Gives (.bool r) w) := by
  have HB := Lib.hid (Below.refl w.heap.size w)
  unfold P at H
  go_enter Try.func86, Try.ntmps86
  replace H := let_hid H
  obtain ⟨t_3, ht_3, H⟩ := H
  replace H := join_hid H
  cases t_3 with
  | false =>
    replace H := ite_f H
    replace H := app_hid H
    obtain rfl := ret_hid H
    go_wp2_with fail
    go_ret
    exact ⟨rfl, HB.out⟩
  | true =>
    replace H := ite_t H
    replace H := let_hid H
    obtain ⟨t_7, ht_7, H⟩ := H
    replace H := app_hid H
    obtain rfl := ret_hid H
    go_wp2_with fail
    go_ret
    exact ⟨rfl, HB.out⟩

set_option maxRecDepth 100000 in
set_option maxHeartbeats 2000000 in
theorem C0 (n_0 : Int) (low : Int) (high : Int)   (w : World)   {r : Bool} (H : Hid (P n_0 low high = some r)) :
    Calls Try.prog 86 #[.int .i64 n_0, .int .i64 low, .int .i64 high] w (fun e w'' => e = .returned (.bool r) ∧ w'' = w) := by
  have HB := Lib.hid (Below.refl w.heap.size w)
  unfold P at H
  go_enter Try.func86, Try.ntmps86
  replace H := let_hid H
  obtain ⟨t_3, ht_3, H⟩ := H
  replace H := join_hid H
  cases t_3 with
  | false =>
    replace H := ite_f H
    replace H := app_hid H
    obtain rfl := ret_hid H
    go_wp2_with fail
    go_ret
    exact ⟨rfl, rfl⟩
  | true =>
    replace H := ite_t H
    replace H := let_hid H
    obtain ⟨t_7, ht_7, H⟩ := H
    replace H := app_hid H
    obtain rfl := ret_hid H
    go_wp2_with fail
    go_ret
    exact ⟨rfl, rfl⟩
end Go.Proofs.Ytkinlkmmelkdnaa.GiWithin

/- loop.example/g01062/impl.isLetter as a plain function, and the contract of the program's: where the plain one has an answer, the program has it. Conditions: slices read as lists. -/
namespace Go.Proofs.Ytkinlkmmelkdnaa.GiIsLetter
set_option linter.unusedVariables false
set_option linter.unusedSimpArgs false
open Go.RowKit
open Go.Proofs.Ytkinlkmmelkdnaa.Rowed Go.Proofs.Ytkinlkmmelkdnaa.Turn Go.Proofs.Ytkinlkmmelkdnaa.Aid Go.Proofs.Ytkinlkmmelkdnaa.GoP Go.Proofs.Ytkinlkmmelkdnaa.GoM

def P (c : Int) : Option (Bool) :=
  letK (decide (97 ≤ c)) fun (t_2 : Bool) =>
  joinK (fun (t_6 : Bool) =>
  some t_6) fun jt_6 => iteK t_2 (letK (decide (c ≤ 122)) fun (t_5 : Bool) =>
  appK jt_6 t_5) (appK jt_6 false)

set_option maxRecDepth 100000 in
set_option maxHeartbeats 2000000 in
theorem C (c : Int)   (w : World)   {r : Bool} (H : Hid (P c = some r)) :
    Calls Try.prog 143 #[.int .u8 c] w (Gives (.bool r) w) := by
  have HB := Lib.hid (Below.refl w.heap.size w)
  unfold P at H
  go_enter Try.func143, Try.ntmps143
  replace H := let_hid H
  obtain ⟨t_2, ht_2, H⟩ := H
  replace H := join_hid H
  cases t_2 with
  | false =>
    replace H := ite_f H
    replace H := app_hid H
    obtain rfl := ret_hid H
    go_wp2_with fail
    go_ret
    exact ⟨rfl, HB.out⟩
  | true =>
    replace H := ite_t H
    replace H := let_hid H
    obtain ⟨t_5, ht_5, H⟩ := H
    replace H := app_hid H
    obtain rfl := ret_hid H
    go_wp2_with fail
    go_ret
    exact ⟨rfl, HB.out⟩

set_option maxRecDepth 100000 in
set_option maxHeartbeats 2000000 in
theorem C0 (c : Int)   (w : World)   {r : Bool} (H : Hid (P c = some r)) :
    Calls Try.prog 143 #[.int .u8 c] w (fun e w'' => e = .returned (.bool r) ∧ w'' = w) := by
  have HB := Lib.hid (Below.refl w.heap.size w)
  unfold P at H
  go_enter Try.func143, Try.ntmps143
  replace H := let_hid H
  obtain ⟨t_2, ht_2, H⟩ := H
  replace H := join_hid H
  cases t_2 with
  | false =>
    replace H := ite_f H
    replace H := app_hid H
    obtain rfl := ret_hid H
    go_wp2_with fail
    go_ret
    exact ⟨rfl, rfl⟩
  | true =>
    replace H := ite_t H
    replace H := let_hid H
    obtain ⟨t_5, ht_5, H⟩ := H
    replace H := app_hid H
    obtain rfl := ret_hid H
    go_wp2_with fail
    go_ret
    exact ⟨rfl, rfl⟩
end Go.Proofs.Ytkinlkmmelkdnaa.GiIsLetter

/- loop.example/g01062/impl.isWord as a plain function, and the contract of the program's: where the plain one has an answer, the program has it. Conditions: slices read as lists. -/
namespace Go.Proofs.Ytkinlkmmelkdnaa.GiIsWord
set_option linter.unusedVariables false
set_option linter.unusedSimpArgs false
open Go.RowKit
open Go.Proofs.Ytkinlkmmelkdnaa.Rowed Go.Proofs.Ytkinlkmmelkdnaa.Turn Go.Proofs.Ytkinlkmmelkdnaa.Aid Go.Proofs.Ytkinlkmmelkdnaa.GoP Go.Proofs.Ytkinlkmmelkdnaa.GoM

def l0 (s_0 : ByteArray) (k0 : Nat) (s : Unit) (nx0 bk0 : Unit → Option (Bool)) : Option (Bool) :=
  
  Option.bind (idx s_0.toList (k0 : Int)) fun (yt_14 : UInt8) =>
  letK ((yt_14.toNat : Int)) fun (t_14 : Int) =>
  Option.bind (Go.Proofs.Ytkinlkmmelkdnaa.GiIsLetter.P t_14) fun (t_15 : Bool) =>
  letK (!t_15) fun (t_16 : Bool) =>
  iteK t_16
  (some false)
  (appK nx0 ())

def e0  (s : Unit) : Option (Bool) :=
  
  some true

def P (s_0 : ByteArray) : Option (Bool) :=
  Option.bind (Go.Proofs.Ytkinlkmmelkdnaa.GiWithin.P (s_0.size : Int) 1 10) fun (t_3 : Bool) =>
  letK (!t_3) fun (t_4 : Bool) =>
  iteK t_4
  (some false)
  (guardK (s_0.size ≤ 9223372036854775807) <|
  cntK (l0 s_0) (s_0.size) 0 () (e0 ))

set_option maxRecDepth 100000 in
set_option maxHeartbeats 2000000 in
theorem C (s_0 : ByteArray)   (w : World)   {r : Bool} (H : Hid (P s_0 = some r)) :
    Calls Try.prog 125 #[.string s_0] w (Gives (.bool r) w) := by
  have HB := Lib.hid (Below.refl w.heap.size w)
  unfold P at H
  go_enter Try.func125, Try.ntmps125
  replace H := bind_hid H
  obtain ⟨t_3, qt_3, H⟩ := H
  go_wp2_with fail
  go_at_call 86
  refine (Go.Proofs.Ytkinlkmmelkdnaa.GiWithin.C ((s_0.size : Int)) (1) (10)  _    qt_3).mono ?_
  rintro e_t_3 wt_3 ⟨rfl, bt_3⟩
  have HBwt_3 := Lib.hid (Below.step HB.out bt_3)
  clear bt_3
  cases t_3 with
  | false =>
    replace H := let_hid H
    obtain ⟨t_4, ht_4, H⟩ := H
    obtain rfl : t_4 = true := ht_4.symm
    replace H := ite_t H
    obtain rfl := ret_hid H
    go_wp2_with fail
    go_ret
    exact ⟨rfl, HBwt_3.out⟩
  | true =>
    replace H := let_hid H
    obtain ⟨t_4, ht_4, H⟩ := H
    obtain rfl : t_4 = false := ht_4.symm
    replace H := ite_f H
    replace H := guard_hid H
    obtain ⟨hg0, H⟩ := H
    go_wp2_with fail
    go_loopg [10] (s_0.size) (fun m_ v10_ wr => ∃ (k0 : Nat) , k0 + m_ = s_0.size ∧ v10_ = .int .i64 (k0 : Int) ∧ Hid (cntK (l0 s_0) m_ k0 () (e0 ) = some r) ∧ Hid (Below w.heap.size w wr))
    case atStart => exact ⟨0, by omega, rfl, H, HBwt_3⟩
    case round =>
      obtain ⟨k0, hkm0, rfl, H, HBwr0⟩ := hrel
      rename World => wr0
      cases gk with
      | zero =>
        obtain rfl : k0 = s_0.size := by omega
        have hc0 : decide (((s_0.size : Nat) : Int) < ((s_0.size : Nat) : Int)) = false := by simp
        replace H := cnt_zero H
        unfold e0 at H
        obtain rfl := ret_hid H
        go_wp2_with fail
        go_ret
        exact ⟨rfl, HBwr0.out⟩
      | succ m0 =>
        have hlt0 : k0 < s_0.size := by omega
        have hc0 : decide ((k0 : Int) < ((s_0.size : Nat) : Int)) = true := by simp; omega
        replace H := cnt_succ H
        unfold l0 at H
        replace H := idx_hid H
        obtain ⟨nt_14, yt_14, et_14, lt_14, gt_14, H⟩ := H
        obtain rfl : k0 = nt_14 := by omega
        clear et_14
        have rt_14 := byte_rule lt_14 gt_14.out
        have b0t_14 : (0 : Int) ≤ (k0 : Int) := by omega
        have b1t_14 : (k0 : Int) < (s_0.size : Int) := by have := size_list s_0; omega
        have b2t_14 : ((k0 : Int)).toNat = k0 := by omega
        have b3t_14 : k0 < s_0.size := by have := size_list s_0; omega
        replace H := let_hid H
        obtain ⟨t_14, ht_14, H⟩ := H
        replace H := bind_hid H
        obtain ⟨t_15, qt_15, H⟩ := H
        go_wp2_with fail
        go_at_call 143
        refine (Go.Proofs.Ytkinlkmmelkdnaa.GiIsLetter.C (t_14)  _    qt_15).mono ?_
        rintro e_t_15 wt_15 ⟨rfl, bt_15⟩
        have HBwt_15 := Lib.hid (Below.step HBwr0.out bt_15)
        clear bt_15
        cases t_15 with
        | false =>
          replace H := let_hid H
          obtain ⟨t_16, ht_16, H⟩ := H
          obtain rfl : t_16 = true := ht_16.symm
          replace H := ite_t H
          obtain rfl := ret_hid H
          go_wp2_with fail
          go_ret
          exact ⟨rfl, HBwt_15.out⟩
        | true =>
          replace H := let_hid H
          obtain ⟨t_16, ht_16, H⟩ := H
          obtain rfl : t_16 = false := ht_16.symm
          replace H := ite_f H
          replace H := app_hid H
          go_wp2_with fail
          go_roundg m0
          case measure => omega
          case rel => exact ⟨k0 + 1, by omega, by go_num, H, HBwt_15⟩
end Go.Proofs.Ytkinlkmmelkdnaa.GiIsWord

/- loop.example/g01062/impl.isHue as a plain function, and the contract of the program's: where the plain one has an answer, the program has it. Conditions: slices read as lists. -/
namespace Go.Proofs.Ytkinlkmmelkdnaa.GiIsHue
set_option linter.unusedVariables false
set_option linter.unusedSimpArgs false
open Go.RowKit
open Go.Proofs.Ytkinlkmmelkdnaa.Rowed Go.Proofs.Ytkinlkmmelkdnaa.Turn Go.Proofs.Ytkinlkmmelkdnaa.Aid Go.Proofs.Ytkinlkmmelkdnaa.GoP Go.Proofs.Ytkinlkmmelkdnaa.GoM

def P (hue : Int) : Option (Bool) :=
  Option.bind (Go.Proofs.Ytkinlkmmelkdnaa.GiWithin.P hue 0 359) fun (t_2 : Bool) =>
  some t_2

set_option maxRecDepth 100000 in
set_option maxHeartbeats 2000000 in
theorem C (hue : Int)   (w : World)   {r : Bool} (H : Hid (P hue = some r)) :
    Calls Try.prog 120 #[.int .i64 hue] w (Gives (.bool r) w) := by
  have HB := Lib.hid (Below.refl w.heap.size w)
  unfold P at H
  go_enter Try.func120, Try.ntmps120
  replace H := bind_hid H
  obtain ⟨t_2, qt_2, H⟩ := H
  go_wp2_with fail
  go_at_call 86
  refine (Go.Proofs.Ytkinlkmmelkdnaa.GiWithin.C (hue) (0) (359)  _    qt_2).mono ?_
  rintro e_t_2 wt_2 ⟨rfl, bt_2⟩
  have HBwt_2 := Lib.hid (Below.step HB.out bt_2)
  clear bt_2
  obtain rfl := ret_hid H
  go_wp2_with fail
  go_ret
  exact ⟨rfl, HBwt_2.out⟩
end Go.Proofs.Ytkinlkmmelkdnaa.GiIsHue

/- loop.example/g01062/impl.isLightness as a plain function, and the contract of the program's: where the plain one has an answer, the program has it. Conditions: slices read as lists. -/
namespace Go.Proofs.Ytkinlkmmelkdnaa.GiIsLightness
set_option linter.unusedVariables false
set_option linter.unusedSimpArgs false
open Go.RowKit
open Go.Proofs.Ytkinlkmmelkdnaa.Rowed Go.Proofs.Ytkinlkmmelkdnaa.Turn Go.Proofs.Ytkinlkmmelkdnaa.Aid Go.Proofs.Ytkinlkmmelkdnaa.GoP Go.Proofs.Ytkinlkmmelkdnaa.GoM

def P (light : Int) : Option (Bool) :=
  Option.bind (Go.Proofs.Ytkinlkmmelkdnaa.GiWithin.P light 0 100) fun (t_2 : Bool) =>
  some t_2

set_option maxRecDepth 100000 in
set_option maxHeartbeats 2000000 in
theorem C (light : Int)   (w : World)   {r : Bool} (H : Hid (P light = some r)) :
    Calls Try.prog 126 #[.int .i64 light] w (Gives (.bool r) w) := by
  have HB := Lib.hid (Below.refl w.heap.size w)
  unfold P at H
  go_enter Try.func126, Try.ntmps126
  replace H := bind_hid H
  obtain ⟨t_2, qt_2, H⟩ := H
  go_wp2_with fail
  go_at_call 86
  refine (Go.Proofs.Ytkinlkmmelkdnaa.GiWithin.C (light) (0) (100)  _    qt_2).mono ?_
  rintro e_t_2 wt_2 ⟨rfl, bt_2⟩
  have HBwt_2 := Lib.hid (Below.step HB.out bt_2)
  clear bt_2
  obtain rfl := ret_hid H
  go_wp2_with fail
  go_ret
  exact ⟨rfl, HBwt_2.out⟩
end Go.Proofs.Ytkinlkmmelkdnaa.GiIsLightness

/- loop.example/g01062/impl.IsShade as a plain function, and the contract of the program's: where the plain one has an answer, the program has it. Conditions: slices read as lists. -/
namespace Go.Proofs.Ytkinlkmmelkdnaa.GiIsShade
set_option linter.unusedVariables false
set_option linter.unusedSimpArgs false
open Go.RowKit
open Go.Proofs.Ytkinlkmmelkdnaa.Rowed Go.Proofs.Ytkinlkmmelkdnaa.Turn Go.Proofs.Ytkinlkmmelkdnaa.Aid Go.Proofs.Ytkinlkmmelkdnaa.GoP Go.Proofs.Ytkinlkmmelkdnaa.GoM

def P (x : Go.Proofs.Ytkinlkmmelkdnaa.PShade.Shade) : Option (Bool) :=
  unShade x fun (x_name : ByteArray) (x_hue : Int) (x_width : Int) (x_dark : Int) (x_light : Int) =>
  Option.bind (Go.Proofs.Ytkinlkmmelkdnaa.GiIsWord.P x_name) fun (t_4 : Bool) =>
  joinK (fun (t_9 : Bool) =>
  joinK (fun (t_14 : Bool) =>
  joinK (fun (t_19 : Bool) =>
  joinK (fun (t_24 : Bool) =>
  joinK (fun (t_31 : Bool) =>
  some t_31) fun jt_31 => iteK t_24 (letK (decide (x_dark ≤ x_light)) fun (t_30 : Bool) =>
  appK jt_31 t_30) (appK jt_31 false)) fun jt_24 => iteK t_19 (Option.bind (Go.Proofs.Ytkinlkmmelkdnaa.GiIsLightness.P x_light) fun (t_23 : Bool) =>
  appK jt_24 t_23) (appK jt_24 false)) fun jt_19 => iteK t_14 (Option.bind (Go.Proofs.Ytkinlkmmelkdnaa.GiIsLightness.P x_dark) fun (t_18 : Bool) =>
  appK jt_19 t_18) (appK jt_19 false)) fun jt_14 => iteK t_9 (Option.bind (Go.Proofs.Ytkinlkmmelkdnaa.GiWithin.P x_width 0 179) fun (t_13 : Bool) =>
  appK jt_14 t_13) (appK jt_14 false)) fun jt_9 => iteK t_4 (Option.bind (Go.Proofs.Ytkinlkmmelkdnaa.GiIsHue.P x_hue) fun (t_8 : Bool) =>
  appK jt_9 t_8) (appK jt_9 false)

set_option maxRecDepth 100000 in
set_option maxHeartbeats 2000000 in
theorem C (x : Go.Proofs.Ytkinlkmmelkdnaa.PShade.Shade)   (w : World)   {r : Bool} (H : Hid (P x = some r)) :
    Calls Try.prog 66 #[x.val] w (Gives (.bool r) w) := by
  have HB := Lib.hid (Below.refl w.heap.size w)
  unfold P at H
  obtain ⟨x_name, x_hue, x_width, x_dark, x_light⟩ := x
  replace H := unShade_hid H
  unfold Go.Proofs.Ytkinlkmmelkdnaa.PShade.Shade.val
  go_enter Try.func66, Try.ntmps66
  obtain ⟨w_x_0, hw_x_0⟩ : ∃ x, w.alloc (.cells #[.string x_name, .int .i64 x_hue, .int .i64 x_width, .int .i64 x_dark, .int .i64 x_light] 74) = x := ⟨_, rfl⟩
  have bw_x_0 : Below w.heap.size w w_x_0 := by rw [← hw_x_0]; exact (Below.refl _ _).alloc (Nat.le_refl _) _
  have HBw_x_0 := Lib.hid (Below.step HB.out bw_x_0)
  clear bw_x_0
  have kx_0_0 : w_x_0.cell? ⟨w.heap.size, 0, none⟩ = some (.string x_name) := by rw [← hw_x_0]; exact box_new _ _ _ 0 _ rfl
  have kx_0_1 : w_x_0.cell? ⟨w.heap.size, 1, none⟩ = some (.int .i64 x_hue) := by rw [← hw_x_0]; exact box_new _ _ _ 1 _ rfl
  have kx_0_2 : w_x_0.cell? ⟨w.heap.size, 2, none⟩ = some (.int .i64 x_width) := by rw [← hw_x_0]; exact box_new _ _ _ 2 _ rfl
  have kx_0_3 : w_x_0.cell? ⟨w.heap.size, 3, none⟩ = some (.int .i64 x_dark) := by rw [← hw_x_0]; exact box_new _ _ _ 3 _ rfl
  have kx_0_4 : w_x_0.cell? ⟨w.heap.size, 4, none⟩ = some (.int .i64 x_light) := by rw [← hw_x_0]; exact box_new _ _ _ 4 _ rfl
  replace H := bind_hid H
  obtain ⟨t_4, qt_4, H⟩ := H
  go_wp2_with fail
  go_at_call 125
  refine (Go.Proofs.Ytkinlkmmelkdnaa.GiIsWord.C (x_name)  _    qt_4).mono ?_
  rintro e_t_4 wt_4 ⟨rfl, bt_4⟩
  have HBwt_4 := Lib.hid (Below.step HBw_x_0.out bt_4)
  replace kx_0_0 := cell_below bt_4 kx_0_0
  replace kx_0_1 := cell_below bt_4 kx_0_1
  replace kx_0_2 := cell_below bt_4 kx_0_2
  replace kx_0_3 := cell_below bt_4 kx_0_3
  replace kx_0_4 := cell_below bt_4 kx_0_4
  clear bt_4
  replace H := join_hid H
  cases t_4 with
  | false =>
    replace H := ite_f H
    replace H := app_hid H
    replace H := join_hid H
    replace H := ite_f H
    replace H := app_hid H
    replace H := join_hid H
    replace H := ite_f H
    replace H := app_hid H
    replace H := join_hid H
    replace H := ite_f H
    replace H := app_hid H
    replace H := join_hid H
    replace H := ite_f H
    replace H := app_hid H
    obtain rfl := ret_hid H
    go_wp2_with fail
    go_ret
    exact ⟨rfl, HBwt_4.out⟩
  | true =>
    replace H := ite_t H
    replace H := bind_hid H
    obtain ⟨t_8, qt_8, H⟩ := H
    go_wp2_with fail
    go_at_call 120
    refine (Go.Proofs.Ytkinlkmmelkdnaa.GiIsHue.C (x_hue)  _    qt_8).mono ?_
    rintro e_t_8 wt_8 ⟨rfl, bt_8⟩
    have HBwt_8 := Lib.hid (Below.step HBwt_4.out bt_8)
    replace kx_0_0 := cell_below bt_8 kx_0_0
    replace kx_0_1 := cell_below bt_8 kx_0_1
    replace kx_0_2 := cell_below bt_8 kx_0_2
    replace kx_0_3 := cell_below bt_8 kx_0_3
    replace kx_0_4 := cell_below bt_8 kx_0_4
    clear bt_8
    replace H := app_hid H
    replace H := join_hid H
    cases t_8 with
    | false =>
      replace H := ite_f H
      replace H := app_hid H
      replace H := join_hid H
      replace H := ite_f H
      replace H := app_hid H
      replace H := join_hid H
      replace H := ite_f H
      replace H := app_hid H
      replace H := join_hid H
      replace H := ite_f H
      replace H := app_hid H
      obtain rfl := ret_hid H
      go_wp2_with fail
      go_ret
      exact ⟨rfl, HBwt_8.out⟩
    | true =>
      replace H := ite_t H
      replace H := bind_hid H
      obtain ⟨t_13, qt_13, H⟩ := H
      go_wp2_with fail
      go_at_call 86
      refine (Go.Proofs.Ytkinlkmmelkdnaa.GiWithin.C (x_width) (0) (179)  _    qt_13).mono ?_
      rintro e_t_13 wt_13 ⟨rfl, bt_13⟩
      have HBwt_13 := Lib.hid (Below.step HBwt_8.out bt_13)
      replace kx_0_0 := cell_below bt_13 kx_0_0
      replace kx_0_1 := cell_below bt_13 kx_0_1
      replace kx_0_2 := cell_below bt_13 kx_0_2
      replace kx_0_3 := cell_below bt_13 kx_0_3
      replace kx_0_4 := cell_below bt_13 kx_0_4
      clear bt_13
      replace H := app_hid H
      replace H := join_hid H
      cases t_13 with
      | false =>
        replace H := ite_f H
        replace H := app_hid H
        replace H := join_hid H
        replace H := ite_f H
        replace H := app_hid H
        replace H := join_hid H
        replace H := ite_f H
        replace H := app_hid H
        obtain rfl := ret_hid H
        go_wp2_with fail
        go_ret
        exact ⟨rfl, HBwt_13.out⟩
      | true =>
        replace H := ite_t H
        replace H := bind_hid H
        obtain ⟨t_18, qt_18, H⟩ := H
        go_wp2_with fail
        go_at_call 126
        refine (Go.Proofs.Ytkinlkmmelkdnaa.GiIsLightness.C (x_dark)  _    qt_18).mono ?_
        rintro e_t_18 wt_18 ⟨rfl, bt_18⟩
        have HBwt_18 := Lib.hid (Below.step HBwt_13.out bt_18)
        replace kx_0_0 := cell_below bt_18 kx_0_0
        replace kx_0_1 := cell_below bt_18 kx_0_1
        replace kx_0_2 := cell_below bt_18 kx_0_2
        replace kx_0_3 := cell_below bt_18 kx_0_3
        replace kx_0_4 := cell_below bt_18 kx_0_4
        clear bt_18
        replace H := app_hid H
        replace H := join_hid H
        cases t_18 with
        | false =>
          replace H := ite_f H
          replace H := app_hid H
          replace H := join_hid H
          replace H := ite_f H
          replace H := app_hid H
          obtain rfl := ret_hid H
          go_wp2_with fail
          go_ret
          exact ⟨rfl, HBwt_18.out⟩
        | true =>
          replace H := ite_t H
          replace H := bind_hid H
          obtain ⟨t_23, qt_23, H⟩ := H
          go_wp2_with fail
          go_at_call 126
          refine (Go.Proofs.Ytkinlkmmelkdnaa.GiIsLightness.C (x_light)  _    qt_23).mono ?_
          rintro e_t_23 wt_23 ⟨rfl, bt_23⟩
          have HBwt_23 := Lib.hid (Below.step HBwt_18.out bt_23)
          replace kx_0_0 := cell_below bt_23 kx_0_0
          replace kx_0_1 := cell_below bt_23 kx_0_1
          replace kx_0_2 := cell_below bt_23 kx_0_2
          replace kx_0_3 := cell_below bt_23 kx_0_3
          replace kx_0_4 := cell_below bt_23 kx_0_4
          clear bt_23
          replace H := app_hid H
          replace H := join_hid H
          cases t_23 with
          | false =>
            replace H := ite_f H
            replace H := app_hid H
            obtain rfl := ret_hid H
            go_wp2_with fail
            go_ret
            exact ⟨rfl, HBwt_23.out⟩
          | true =>
            replace H := ite_t H
            replace H := let_hid H
            obtain ⟨t_30, ht_30, H⟩ := H
            replace H := app_hid H
            obtain rfl := ret_hid H
            go_wp2_with fail
            go_ret
            exact ⟨rfl, HBwt_23.out⟩
end Go.Proofs.Ytkinlkmmelkdnaa.GiIsShade

/- loop.example/g01062/impl.nameOfShade as a plain function, and the contract of the program's: where the plain one has an answer, the program has it. Conditions: slices read as lists. -/
namespace Go.Proofs.Ytkinlkmmelkdnaa.GiNameOfShade
set_option linter.unusedVariables false
set_option linter.unusedSimpArgs false
open Go.RowKit
open Go.Proofs.Ytkinlkmmelkdnaa.Rowed Go.Proofs.Ytkinlkmmelkdnaa.Turn Go.Proofs.Ytkinlkmmelkdnaa.Aid Go.Proofs.Ytkinlkmmelkdnaa.GoP Go.Proofs.Ytkinlkmmelkdnaa.GoM

def P (x : Go.Proofs.Ytkinlkmmelkdnaa.PShade.Shade) : Option (ByteArray) :=
  unShade x fun (x_name : ByteArray) (x_hue : Int) (x_width : Int) (x_dark : Int) (x_light : Int) =>
  some x_name

set_option maxRecDepth 100000 in
set_option maxHeartbeats 2000000 in
theorem C (x : Go.Proofs.Ytkinlkmmelkdnaa.PShade.Shade)   (w : World)   {r : ByteArray} (H : Hid (P x = some r)) :
    Calls Try.prog 118 #[x.val] w (Gives (.string r) w) := by
  have HB := Lib.hid (Below.refl w.heap.size w)
  unfold P at H
  obtain ⟨x_name, x_hue, x_width, x_dark, x_light⟩ := x
  replace H := unShade_hid H
  unfold Go.Proofs.Ytkinlkmmelkdnaa.PShade.Shade.val
  go_enter Try.func118, Try.ntmps118
  obtain ⟨w_x_0, hw_x_0⟩ : ∃ x, w.alloc (.cells #[.string x_name, .int .i64 x_hue, .int .i64 x_width, .int .i64 x_dark, .int .i64 x_light] 74) = x := ⟨_, rfl⟩
  have bw_x_0 : Below w.heap.size w w_x_0 := by rw [← hw_x_0]; exact (Below.refl _ _).alloc (Nat.le_refl _) _
  have HBw_x_0 := Lib.hid (Below.step HB.out bw_x_0)
  clear bw_x_0
  have kx_0_0 : w_x_0.cell? ⟨w.heap.size, 0, none⟩ = some (.string x_name) := by rw [← hw_x_0]; exact box_new _ _ _ 0 _ rfl
  have kx_0_1 : w_x_0.cell? ⟨w.heap.size, 1, none⟩ = some (.int .i64 x_hue) := by rw [← hw_x_0]; exact box_new _ _ _ 1 _ rfl
  have kx_0_2 : w_x_0.cell? ⟨w.heap.size, 2, none⟩ = some (.int .i64 x_width) := by rw [← hw_x_0]; exact box_new _ _ _ 2 _ rfl
  have kx_0_3 : w_x_0.cell? ⟨w.heap.size, 3, none⟩ = some (.int .i64 x_dark) := by rw [← hw_x_0]; exact box_new _ _ _ 3 _ rfl
  have kx_0_4 : w_x_0.cell? ⟨w.heap.size, 4, none⟩ = some (.int .i64 x_light) := by rw [← hw_x_0]; exact box_new _ _ _ 4 _ rfl
  obtain rfl := ret_hid H
  go_wp2_with fail
  go_ret
  exact ⟨rfl, HBw_x_0.out⟩
end Go.Proofs.Ytkinlkmmelkdnaa.GiNameOfShade

/- loop.example/g01062/impl.areByKey[loop.example/g01062/impl.Shade,string] as a plain function, and the contract of the program's: where the plain one has an answer, the program has it. Conditions: slices read as lists. -/
namespace Go.Proofs.Ytkinlkmmelkdnaa.GiAreByKeyShadeStringiIsShadeiNameOfShade
set_option linter.unusedVariables false
set_option linter.unusedSimpArgs false
open Go.RowKit
open Go.Proofs.Ytkinlkmmelkdnaa.Rowed Go.Proofs.Ytkinlkmmelkdnaa.Turn Go.Proofs.Ytkinlkmmelkdnaa.Aid Go.Proofs.Ytkinlkmmelkdnaa.GoP Go.Proofs.Ytkinlkmmelkdnaa.GoM

def l0 (list : (List Go.Proofs.Ytkinlkmmelkdnaa.PShade.Shade)) (k0 : Nat) (s : Unit) (nx0 bk0 : Unit → Option (Bool)) : Option (Bool) :=
  
  Option.bind (idx list (k0 : Int)) fun (yt_11 : Go.Proofs.Ytkinlkmmelkdnaa.PShade.Shade) =>
  unShade yt_11 fun (t_11_name : ByteArray) (t_11_hue : Int) (t_11_width : Int) (t_11_dark : Int) (t_11_light : Int) =>
  Option.bind (Go.Proofs.Ytkinlkmmelkdnaa.GiIsShade.P (Go.Proofs.Ytkinlkmmelkdnaa.PShade.Shade.mk t_11_name t_11_hue t_11_width t_11_dark t_11_light)) fun (t_18 : Bool) =>
  letK (!t_18) fun (t_19 : Bool) =>
  joinK (fun (t_36 : Bool) =>
  iteK t_36
  (some false)
  (appK nx0 ())) fun jt_36 => iteK t_19 (appK jt_36 true) (letK (decide (0 < (k0 : Int))) fun (t_22 : Bool) =>
  joinK (fun (t_35 : Bool) =>
  appK jt_36 t_35) fun jt_35 => iteK t_22 (Option.bind (Go.Proofs.Ytkinlkmmelkdnaa.GiNameOfShade.P (Go.Proofs.Ytkinlkmmelkdnaa.PShade.Shade.mk t_11_name t_11_hue t_11_width t_11_dark t_11_light)) fun (t_26 : ByteArray) =>
  letK (IntKind.i64.wrap ((k0 : Int) - 1)) fun (t_30 : Int) =>
  Option.bind (idx list t_30) fun (yt_31 : Go.Proofs.Ytkinlkmmelkdnaa.PShade.Shade) =>
  unShade yt_31 fun (t_31_name : ByteArray) (t_31_hue : Int) (t_31_width : Int) (t_31_dark : Int) (t_31_light : Int) =>
  Option.bind (Go.Proofs.Ytkinlkmmelkdnaa.GiNameOfShade.P (Go.Proofs.Ytkinlkmmelkdnaa.PShade.Shade.mk t_31_name t_31_hue t_31_width t_31_dark t_31_light)) fun (t_33 : ByteArray) =>
  letK (Op.bytesLess t_26.toList t_33.toList || t_26.toList == t_33.toList) fun (t_34 : Bool) =>
  appK jt_35 t_34) (appK jt_35 false))

def e0  (s : Unit) : Option (Bool) :=
  
  some true

def P (list : (List Go.Proofs.Ytkinlkmmelkdnaa.PShade.Shade)) (most : Int) : Option (Bool) :=
  letK (decide (most < (list.length : Int))) fun (t_4 : Bool) =>
  iteK t_4
  (some false)
  (cntK (l0 list) (list.length) 0 () (e0 ))

set_option maxRecDepth 100000 in
set_option maxHeartbeats 2000000 in
theorem C (list : (List Go.Proofs.Ytkinlkmmelkdnaa.PShade.Shade)) (most : Int) (A0 : Option Addr) (c0 : Nat)  (w : World) (M0 : Hid (Cells w 5 A0 list.length (Go.Proofs.Ytkinlkmmelkdnaa.PShade.flat list))) (N0 : Hid (list.length ≤ 9223372036854775807))  {r : Bool} (H : Hid (P list most = some r)) :
    Calls Try.prog 127 #[.slice A0 list.length c0, .int .i64 most, .func (.func 66) #[] #[], .func (.func 118) #[] #[]] w (Gives (.bool r) w) := by
  have HB := Lib.hid (Below.refl w.heap.size w)
  unfold P at H
  have N0o := N0.out
  go_enter Try.func127, Try.ntmps127
  replace H := let_hid H
  obtain ⟨t_4, ht_4, H⟩ := H
  cases t_4 with
  | false =>
    replace H := ite_f H
    go_wp2_with fail
    go_loopg [17] (list.length) (fun m_ v17_ wr => ∃ (k0 : Nat) , k0 + m_ = list.length ∧ v17_ = .int .i64 (k0 : Int) ∧ Hid (cntK (l0 list) m_ k0 () (e0 ) = some r) ∧ Hid (Below w.heap.size w wr))
    case atStart => exact ⟨0, by omega, rfl, H, HB⟩
    case round =>
      obtain ⟨k0, hkm0, rfl, H, HBwr0⟩ := hrel
      rename World => wr0
      cases gk with
      | zero =>
        obtain rfl : k0 = list.length := by omega
        have hc0 : decide (((list.length : Nat) : Int) < ((list.length : Nat) : Int)) = false := by simp
        replace H := cnt_zero H
        unfold e0 at H
        obtain rfl := ret_hid H
        go_wp2_with fail
        go_ret
        exact ⟨rfl, HBwr0.out⟩
      | succ m0 =>
        have hlt0 : k0 < list.length := by omega
        have hc0 : decide ((k0 : Int) < ((list.length : Nat) : Int)) = true := by simp; omega
        replace H := cnt_succ H
        unfold l0 at H
        replace H := idx_hid H
        obtain ⟨nt_11, yt_11, et_11, lt_11, gt_11, H⟩ := H
        obtain rfl : k0 = nt_11 := by omega
        clear et_11
        obtain ⟨t_11_name, t_11_hue, t_11_width, t_11_dark, t_11_light⟩ := yt_11
        replace H := unShade_hid H
        obtain ⟨ab_t_11, ao_t_11, zt_11, At_11, z_t_11, ct_11_0, ct_11_1, ct_11_2, ct_11_3, ct_11_4⟩ := Go.Proofs.Ytkinlkmmelkdnaa.OShade.at_ M0.out lt_11
        obtain rfl := Option.some.inj (gt_11.out.symm.trans z_t_11)
        subst At_11
        have ltt_11 := cell_lt ct_11_0
        replace ct_11_0 := cell_below HBwr0.out ct_11_0
        replace ct_11_1 := cell_below HBwr0.out ct_11_1
        replace ct_11_2 := cell_below HBwr0.out ct_11_2
        replace ct_11_3 := cell_below HBwr0.out ct_11_3
        replace ct_11_4 := cell_below HBwr0.out ct_11_4
        clear z_t_11
        have b0t_11 : (0 : Int) ≤ (k0 : Int) := by omega
        have b1t_11 : (k0 : Int) < ((list.length : Nat) : Int) := by omega
        have b2t_11 : ((k0 : Int)).toNat = k0 := by omega
        obtain ⟨w_e_13, hw_e_13⟩ : ∃ x, wr0.alloc (.cells #[.string t_11_name, .int .i64 t_11_hue, .int .i64 t_11_width, .int .i64 t_11_dark, .int .i64 t_11_light] 74) = x := ⟨_, rfl⟩
        have bw_e_13 : Below wr0.heap.size wr0 w_e_13 := by rw [← hw_e_13]; exact (Below.refl _ _).alloc (Nat.le_refl _) _
        have HBw_e_13 := Lib.hid (Below.step HBwr0.out bw_e_13)
        have ct_11_0__378 := cell_below bw_e_13 ct_11_0
        have ct_11_1__379 := cell_below bw_e_13 ct_11_1
        have ct_11_2__380 := cell_below bw_e_13 ct_11_2
        have ct_11_3__381 := cell_below bw_e_13 ct_11_3
        have ct_11_4__382 := cell_below bw_e_13 ct_11_4
        clear bw_e_13
        have ke_13_0 : w_e_13.cell? ⟨wr0.heap.size, 0, none⟩ = some (.string t_11_name) := by rw [← hw_e_13]; exact box_new _ _ _ 0 _ rfl
        have ke_13_1 : w_e_13.cell? ⟨wr0.heap.size, 1, none⟩ = some (.int .i64 t_11_hue) := by rw [← hw_e_13]; exact box_new _ _ _ 1 _ rfl
        have ke_13_2 : w_e_13.cell? ⟨wr0.heap.size, 2, none⟩ = some (.int .i64 t_11_width) := by rw [← hw_e_13]; exact box_new _ _ _ 2 _ rfl
        have ke_13_3 : w_e_13.cell? ⟨wr0.heap.size, 3, none⟩ = some (.int .i64 t_11_dark) := by rw [← hw_e_13]; exact box_new _ _ _ 3 _ rfl
        have ke_13_4 : w_e_13.cell? ⟨wr0.heap.size, 4, none⟩ = some (.int .i64 t_11_light) := by rw [← hw_e_13]; exact box_new _ _ _ 4 _ rfl
        go_wp2_with fail
        clear ct_11_0 ct_11_1 ct_11_2 ct_11_3 ct_11_4
        have Hct_11_0__378 := Lib.hid ct_11_0__378
        replace ct_11_0__378 := cell_regrown ct_11_0__378
        have Hct_11_1__379 := Lib.hid ct_11_1__379
        replace ct_11_1__379 := cell_regrown ct_11_1__379
        have Hct_11_2__380 := Lib.hid ct_11_2__380
        replace ct_11_2__380 := cell_regrown ct_11_2__380
        have Hct_11_3__381 := Lib.hid ct_11_3__381
        replace ct_11_3__381 := cell_regrown ct_11_3__381
        have Hct_11_4__382 := Lib.hid ct_11_4__382
        replace ct_11_4__382 := cell_regrown ct_11_4__382
        have Hke_13_0 := Lib.hid ke_13_0
        replace ke_13_0 := cell_regrown ke_13_0
        have Hke_13_1 := Lib.hid ke_13_1
        replace ke_13_1 := cell_regrown ke_13_1
        have Hke_13_2 := Lib.hid ke_13_2
        replace ke_13_2 := cell_regrown ke_13_2
        have Hke_13_3 := Lib.hid ke_13_3
        replace ke_13_3 := cell_regrown ke_13_3
        have Hke_13_4 := Lib.hid ke_13_4
        replace ke_13_4 := cell_regrown ke_13_4
        replace H := bind_hid H
        obtain ⟨t_18, qt_18, H⟩ := H
        have nt_18 : ∀ d os, Calls Try.prog 66 #[.agg #[.string t_11_name, .int .i64 t_11_hue, .int .i64 t_11_width, .int .i64 t_11_dark, .int .i64 t_11_light]] (Go.Sort.grow (redrawn w_e_13 d) os) fun e w'' => e = .returned (.bool t_18) ∧ ∃ p : Regrown, w'' = Go.Sort.grow (redrawn w_e_13 p.d) p.os := fun d os => Calls.regrown_of (Go.Proofs.Ytkinlkmmelkdnaa.GiIsShade.C ((Go.Proofs.Ytkinlkmmelkdnaa.PShade.Shade.mk t_11_name t_11_hue t_11_width t_11_dark t_11_light))  _    qt_18)
        cases t_18 with
        | false =>
          replace H := let_hid H
          obtain ⟨t_19, ht_19, H⟩ := H
          obtain rfl : t_19 = true := ht_19.symm
          replace H := join_hid H
          replace H := ite_t H
          replace H := app_hid H
          refine wp_region_quiet_below (by kernel_rfl) (by kernel_rfl) ?_
          repeat (go_big_quiet_step (first | (go_at_call 66; exact nt_18 _ _)))
          refine wpQuiet_nil ?_
          intro Y6 hY6
          replace hY6 := below_class hY6
          clear nt_18
          replace ct_11_0__378 := Hct_11_0__378.out
          clear Hct_11_0__378
          replace ct_11_1__379 := Hct_11_1__379.out
          clear Hct_11_1__379
          replace ct_11_2__380 := Hct_11_2__380.out
          clear Hct_11_2__380
          replace ct_11_3__381 := Hct_11_3__381.out
          clear Hct_11_3__381
          replace ct_11_4__382 := Hct_11_4__382.out
          clear Hct_11_4__382
          replace ke_13_0 := Hke_13_0.out
          clear Hke_13_0
          replace ke_13_1 := Hke_13_1.out
          clear Hke_13_1
          replace ke_13_2 := Hke_13_2.out
          clear Hke_13_2
          replace ke_13_3 := Hke_13_3.out
          clear Hke_13_3
          replace ke_13_4 := Hke_13_4.out
          clear Hke_13_4
          have HBY6 := Lib.hid (Below.step HBw_e_13.out hY6)
          replace ct_11_0__378 := cell_below hY6 ct_11_0__378
          replace ct_11_1__379 := cell_below hY6 ct_11_1__379
          replace ct_11_2__380 := cell_below hY6 ct_11_2__380
          replace ct_11_3__381 := cell_below hY6 ct_11_3__381
          replace ct_11_4__382 := cell_below hY6 ct_11_4__382
          replace ke_13_0 := cell_below hY6 ke_13_0
          replace ke_13_1 := cell_below hY6 ke_13_1
          replace ke_13_2 := cell_below hY6 ke_13_2
          replace ke_13_3 := cell_below hY6 ke_13_3
          replace ke_13_4 := cell_below hY6 ke_13_4
          clear hY6
          replace H := ite_t H
          obtain rfl := ret_hid H
          go_wp2_with fail
          go_ret
          exact ⟨rfl, HBY6.out⟩
        | true =>
          replace H := let_hid H
          obtain ⟨t_19, ht_19, H⟩ := H
          obtain rfl : t_19 = false := ht_19.symm
          replace H := join_hid H
          replace H := ite_f H
          replace H := let_hid H
          obtain ⟨t_22, ht_22, H⟩ := H
          replace H := join_hid H
          cases t_22 with
          | false =>
            have nht_22 : ¬ (0 < k0) := by have := of_decide_eq_false ht_22; omega
            replace H := ite_f H
            replace H := app_hid H
            replace H := app_hid H
            refine wp_region_quiet_below (by kernel_rfl) (by kernel_rfl) ?_
            repeat (go_big_quiet_step (first | (go_at_call 66; exact nt_18 _ _)))
            refine wpQuiet_nil ?_
            intro Y6 hY6
            replace hY6 := below_class hY6
            clear nt_18
            replace ct_11_0__378 := Hct_11_0__378.out
            clear Hct_11_0__378
            replace ct_11_1__379 := Hct_11_1__379.out
            clear Hct_11_1__379
            replace ct_11_2__380 := Hct_11_2__380.out
            clear Hct_11_2__380
            replace ct_11_3__381 := Hct_11_3__381.out
            clear Hct_11_3__381
            replace ct_11_4__382 := Hct_11_4__382.out
            clear Hct_11_4__382
            replace ke_13_0 := Hke_13_0.out
            clear Hke_13_0
            replace ke_13_1 := Hke_13_1.out
            clear Hke_13_1
            replace ke_13_2 := Hke_13_2.out
            clear Hke_13_2
            replace ke_13_3 := Hke_13_3.out
            clear Hke_13_3
            replace ke_13_4 := Hke_13_4.out
            clear Hke_13_4
            have HBY6 := Lib.hid (Below.step HBw_e_13.out hY6)
            replace ct_11_0__378 := cell_below hY6 ct_11_0__378
            replace ct_11_1__379 := cell_below hY6 ct_11_1__379
            replace ct_11_2__380 := cell_below hY6 ct_11_2__380
            replace ct_11_3__381 := cell_below hY6 ct_11_3__381
            replace ct_11_4__382 := cell_below hY6 ct_11_4__382
            replace ke_13_0 := cell_below hY6 ke_13_0
            replace ke_13_1 := cell_below hY6 ke_13_1
            replace ke_13_2 := cell_below hY6 ke_13_2
            replace ke_13_3 := cell_below hY6 ke_13_3
            replace ke_13_4 := cell_below hY6 ke_13_4
            clear hY6
            replace H := ite_f H
            replace H := app_hid H
            go_wp2_with fail
            go_roundg m0
            case measure => omega
            case rel => exact ⟨k0 + 1, by omega, by go_num, H, HBY6⟩
          | true =>
            have nht_22 : 0 < k0 := by have := of_decide_eq_true ht_22; omega
            replace H := ite_t H
            replace H := bind_hid H
            obtain ⟨t_26, qt_26, H⟩ := H
            have nt_26 : ∀ d os, Calls Try.prog 118 #[.agg #[.string t_11_name, .int .i64 t_11_hue, .int .i64 t_11_width, .int .i64 t_11_dark, .int .i64 t_11_light]] (Go.Sort.grow (redrawn w_e_13 d) os) fun e w'' => e = .returned (.string t_26) ∧ ∃ p : Regrown, w'' = Go.Sort.grow (redrawn w_e_13 p.d) p.os := fun d os => Calls.regrown_of (Go.Proofs.Ytkinlkmmelkdnaa.GiNameOfShade.C ((Go.Proofs.Ytkinlkmmelkdnaa.PShade.Shade.mk t_11_name t_11_hue t_11_width t_11_dark t_11_light))  _    qt_26)
            replace H := let_hid H
            obtain ⟨t_30, ht_30, H⟩ := H
            replace H := idx_hid H
            obtain ⟨nt_31, yt_31, et_31, lt_31, gt_31, H⟩ := H
            subst et_31
            obtain ⟨t_31_name, t_31_hue, t_31_width, t_31_dark, t_31_light⟩ := yt_31
            replace H := unShade_hid H
            obtain ⟨ab_t_31, ao_t_31, zt_31, At_31, z_t_31, ct_31_0, ct_31_1, ct_31_2, ct_31_3, ct_31_4⟩ := Go.Proofs.Ytkinlkmmelkdnaa.OShade.at_ M0.out lt_31
            obtain rfl := Option.some.inj (gt_31.out.symm.trans z_t_31)
            simp only [Option.some.injEq, Addr.mk.injEq] at At_31
            obtain ⟨rfl, rfl, _⟩ := At_31
            have ltt_31 := cell_lt ct_31_0
            replace ct_31_0 := cell_below HBw_e_13.out ct_31_0
            replace ct_31_1 := cell_below HBw_e_13.out ct_31_1
            replace ct_31_2 := cell_below HBw_e_13.out ct_31_2
            replace ct_31_3 := cell_below HBw_e_13.out ct_31_3
            replace ct_31_4 := cell_below HBw_e_13.out ct_31_4
            clear z_t_31
            have b0t_31 : (0 : Int) ≤ (nt_31 : Int) := by omega
            have b1t_31 : (nt_31 : Int) < ((list.length : Nat) : Int) := by omega
            have b2t_31 : ((nt_31 : Int)).toNat = nt_31 := by omega
            have Hct_31_0 := Lib.hid ct_31_0
            replace ct_31_0 := cell_regrown ct_31_0
            have Hct_31_1 := Lib.hid ct_31_1
            replace ct_31_1 := cell_regrown ct_31_1
            have Hct_31_2 := Lib.hid ct_31_2
            replace ct_31_2 := cell_regrown ct_31_2
            have Hct_31_3 := Lib.hid ct_31_3
            replace ct_31_3 := cell_regrown ct_31_3
            have Hct_31_4 := Lib.hid ct_31_4
            replace ct_31_4 := cell_regrown ct_31_4
            replace H := bind_hid H
            obtain ⟨t_33, qt_33, H⟩ := H
            have nt_33 : ∀ d os, Calls Try.prog 118 #[.agg #[.string t_31_name, .int .i64 t_31_hue, .int .i64 t_31_width, .int .i64 t_31_dark, .int .i64 t_31_light]] (Go.Sort.grow (redrawn w_e_13 d) os) fun e w'' => e = .returned (.string t_33) ∧ ∃ p : Regrown, w'' = Go.Sort.grow (redrawn w_e_13 p.d) p.os := fun d os => Calls.regrown_of (Go.Proofs.Ytkinlkmmelkdnaa.GiNameOfShade.C ((Go.Proofs.Ytkinlkmmelkdnaa.PShade.Shade.mk t_31_name t_31_hue t_31_width t_31_dark t_31_light))  _    qt_33)
            replace H := let_hid H
            obtain ⟨t_34, ht_34, H⟩ := H
            replace H := app_hid H
            replace H := app_hid H
            refine wp_region_quiet_below (by kernel_rfl) (by kernel_rfl) ?_
            repeat (go_big_quiet_step (first | (go_at_call 118; with_reducible exact nt_26 _ _) | (go_at_call 118; with_reducible exact nt_33 _ _) | (go_at_call 66; exact nt_18 _ _) | (go_at_call 118; exact nt_26 _ _) | (go_at_call 118; exact nt_33 _ _)))
            refine wpQuiet_nil ?_
            intro Y6 hY6
            replace hY6 := below_class hY6
            clear nt_18 nt_26 nt_33
            replace ct_11_0__378 := Hct_11_0__378.out
            clear Hct_11_0__378
            replace ct_11_1__379 := Hct_11_1__379.out
            clear Hct_11_1__379
            replace ct_11_2__380 := Hct_11_2__380.out
            clear Hct_11_2__380
            replace ct_11_3__381 := Hct_11_3__381.out
            clear Hct_11_3__381
            replace ct_11_4__382 := Hct_11_4__382.out
            clear Hct_11_4__382
            replace ke_13_0 := Hke_13_0.out
            clear Hke_13_0
            replace ke_13_1 := Hke_13_1.out
            clear Hke_13_1
            replace ke_13_2 := Hke_13_2.out
            clear Hke_13_2
            replace ke_13_3 := Hke_13_3.out
            clear Hke_13_3
            replace ke_13_4 := Hke_13_4.out
            clear Hke_13_4
            replace ct_31_0 := Hct_31_0.out
            clear Hct_31_0
            replace ct_31_1 := Hct_31_1.out
            clear Hct_31_1
            replace ct_31_2 := Hct_31_2.out
            clear Hct_31_2
            replace ct_31_3 := Hct_31_3.out
            clear Hct_31_3
            replace ct_31_4 := Hct_31_4.out
            clear Hct_31_4
            have HBY6 := Lib.hid (Below.step HBw_e_13.out hY6)
            replace ct_11_0__378 := cell_below hY6 ct_11_0__378
            replace ct_11_1__379 := cell_below hY6 ct_11_1__379
            replace ct_11_2__380 := cell_below hY6 ct_11_2__380
            replace ct_11_3__381 := cell_below hY6 ct_11_3__381
            replace ct_11_4__382 := cell_below hY6 ct_11_4__382
            replace ke_13_0 := cell_below hY6 ke_13_0
            replace ke_13_1 := cell_below hY6 ke_13_1
            replace ke_13_2 := cell_below hY6 ke_13_2
            replace ke_13_3 := cell_below hY6 ke_13_3
            replace ke_13_4 := cell_below hY6 ke_13_4
            replace ct_31_0 := cell_below hY6 ct_31_0
            replace ct_31_1 := cell_below hY6 ct_31_1
            replace ct_31_2 := cell_below hY6 ct_31_2
            replace ct_31_3 := cell_below hY6 ct_31_3
            replace ct_31_4 := cell_below hY6 ct_31_4
            clear hY6
            cases t_34 with
            | false =>
              replace H := ite_f H
              replace H := app_hid H
              go_wp2_with fail
              go_roundg m0
              case measure => omega
              case rel => exact ⟨k0 + 1, by omega, by go_num, H, HBY6⟩
            | true =>
              replace H := ite_t H
              obtain rfl := ret_hid H
              go_wp2_with fail
              go_ret
              exact ⟨rfl, HBY6.out⟩
  | true =>
    replace H := ite_t H
    obtain rfl := ret_hid H
    go_wp2_with fail
    go_ret
    exact ⟨rfl, HB.out⟩
end Go.Proofs.Ytkinlkmmelkdnaa.GiAreByKeyShadeStringiIsShadeiNameOfShade

/- loop.example/g01062/impl.AreShades as a plain function, and the contract of the program's: where the plain one has an answer, the program has it. Conditions: slices read as lists. -/
namespace Go.Proofs.Ytkinlkmmelkdnaa.GiAreShades
set_option linter.unusedVariables false
set_option linter.unusedSimpArgs false
open Go.RowKit
open Go.Proofs.Ytkinlkmmelkdnaa.Rowed Go.Proofs.Ytkinlkmmelkdnaa.Turn Go.Proofs.Ytkinlkmmelkdnaa.Aid Go.Proofs.Ytkinlkmmelkdnaa.GoP Go.Proofs.Ytkinlkmmelkdnaa.GoM

def P (list : (List Go.Proofs.Ytkinlkmmelkdnaa.PShade.Shade)) : Option (Bool) :=
  Option.bind (Go.Proofs.Ytkinlkmmelkdnaa.GiAreByKeyShadeStringiIsShadeiNameOfShade.P list 12) fun (t_2 : Bool) =>
  some t_2

set_option maxRecDepth 100000 in
set_option maxHeartbeats 2000000 in
theorem C (list : (List Go.Proofs.Ytkinlkmmelkdnaa.PShade.Shade)) (A0 : Option Addr) (c0 : Nat)  (w : World) (M0 : Hid (Cells w 5 A0 list.length (Go.Proofs.Ytkinlkmmelkdnaa.PShade.flat list))) (N0 : Hid (list.length ≤ 9223372036854775807))  {r : Bool} (H : Hid (P list = some r)) :
    Calls Try.prog 68 #[.slice A0 list.length c0] w (Gives (.bool r) w) := by
  have HB := Lib.hid (Below.refl w.heap.size w)
  unfold P at H
  have N0o := N0.out
  go_enter Try.func68, Try.ntmps68
  replace H := bind_hid H
  obtain ⟨t_2, qt_2, H⟩ := H
  go_wp2_with fail
  go_at_call 127
  refine (Go.Proofs.Ytkinlkmmelkdnaa.GiAreByKeyShadeStringiIsShadeiNameOfShade.C (list) (12) A0 c0 _   (Lib.hid (Cells.below M0.out HB.out)) N0 qt_2).mono ?_
  rintro e_t_2 wt_2 ⟨rfl, bt_2⟩
  have HBwt_2 := Lib.hid (Below.step HB.out bt_2)
  clear bt_2
  obtain rfl := ret_hid H
  go_wp2_with fail
  go_ret
  exact ⟨rfl, HBwt_2.out⟩
end Go.Proofs.Ytkinlkmmelkdnaa.GiAreShades

/- loop.example/g01062/impl.canLook as a plain function, and the contract of the program's: where the plain one has an answer, the program has it. Conditions: slices read as lists. -/
namespace Go.Proofs.Ytkinlkmmelkdnaa.GiCanLook
set_option linter.unusedVariables false
set_option linter.unusedSimpArgs false
open Go.RowKit
open Go.Proofs.Ytkinlkmmelkdnaa.Rowed Go.Proofs.Ytkinlkmmelkdnaa.Turn Go.Proofs.Ytkinlkmmelkdnaa.Aid Go.Proofs.Ytkinlkmmelkdnaa.GoP Go.Proofs.Ytkinlkmmelkdnaa.GoM

def P (list : (List Go.Proofs.Ytkinlkmmelkdnaa.PShade.Shade)) (hue : Int) (light : Int) : Option (Bool) :=
  Option.bind (Go.Proofs.Ytkinlkmmelkdnaa.GiAreShades.P list) fun (t_2 : Bool) =>
  joinK (fun (t_6 : Bool) =>
  joinK (fun (t_10 : Bool) =>
  some t_10) fun jt_10 => iteK t_6 (Option.bind (Go.Proofs.Ytkinlkmmelkdnaa.GiIsLightness.P light) fun (t_9 : Bool) =>
  appK jt_10 t_9) (appK jt_10 false)) fun jt_6 => iteK t_2 (Option.bind (Go.Proofs.Ytkinlkmmelkdnaa.GiIsHue.P hue) fun (t_5 : Bool) =>
  appK jt_6 t_5) (appK jt_6 false)

set_option maxRecDepth 100000 in
set_option maxHeartbeats 2000000 in
theorem C (list : (List Go.Proofs.Ytkinlkmmelkdnaa.PShade.Shade)) (hue : Int) (light : Int) (A0 : Option Addr) (c0 : Nat)  (w : World) (M0 : Hid (Cells w 5 A0 list.length (Go.Proofs.Ytkinlkmmelkdnaa.PShade.flat list))) (N0 : Hid (list.length ≤ 9223372036854775807))  {r : Bool} (H : Hid (P list hue light = some r)) :
    Calls Try.prog 103 #[.slice A0 list.length c0, .int .i64 hue, .int .i64 light] w (Gives (.bool r) w) := by
  have HB := Lib.hid (Below.refl w.heap.size w)
  unfold P at H
  have N0o := N0.out
  go_enter Try.func103, Try.ntmps103
  replace H := bind_hid H
  obtain ⟨t_2, qt_2, H⟩ := H
  go_wp2_with fail
  go_at_call 68
  refine (Go.Proofs.Ytkinlkmmelkdnaa.GiAreShades.C (list) A0 c0 _   (Lib.hid (Cells.below M0.out HB.out)) N0 qt_2).mono ?_
  rintro e_t_2 wt_2 ⟨rfl, bt_2⟩
  have HBwt_2 := Lib.hid (Below.step HB.out bt_2)
  clear bt_2
  replace H := join_hid H
  cases t_2 with
  | false =>
    replace H := ite_f H
    replace H := app_hid H
    replace H := join_hid H
    replace H := ite_f H
    replace H := app_hid H
    obtain rfl := ret_hid H
    go_wp2_with fail
    go_ret
    exact ⟨rfl, HBwt_2.out⟩
  | true =>
    replace H := ite_t H
    replace H := bind_hid H
    obtain ⟨t_5, qt_5, H⟩ := H
    go_wp2_with fail
    go_at_call 120
    refine (Go.Proofs.Ytkinlkmmelkdnaa.GiIsHue.C (hue)  _    qt_5).mono ?_
    rintro e_t_5 wt_5 ⟨rfl, bt_5⟩
    have HBwt_5 := Lib.hid (Below.step HBwt_2.out bt_5)
    clear bt_5
    replace H := app_hid H
    replace H := join_hid H
    cases t_5 with
    | false =>
      replace H := ite_f H
      replace H := app_hid H
      obtain rfl := ret_hid H
      go_wp2_with fail
      go_ret
      exact ⟨rfl, HBwt_5.out⟩
    | true =>
      replace H := ite_t H
      replace H := bind_hid H
      obtain ⟨t_9, qt_9, H⟩ := H
      go_wp2_with fail
      go_at_call 126
      refine (Go.Proofs.Ytkinlkmmelkdnaa.GiIsLightness.C (light)  _    qt_9).mono ?_
      rintro e_t_9 wt_9 ⟨rfl, bt_9⟩
      have HBwt_9 := Lib.hid (Below.step HBwt_5.out bt_9)
      clear bt_9
      replace H := app_hid H
      obtain rfl := ret_hid H
      go_wp2_with fail
      go_ret
      exact ⟨rfl, HBwt_9.out⟩
end Go.Proofs.Ytkinlkmmelkdnaa.GiCanLook

/- slices.Clone[[]loop.example/g01062/impl.Shade,loop.example/g01062/impl.Shade] as a plain function, and the contract of the program's: where the plain one has an answer, the program has it. Conditions: slices read as lists. -/
namespace Go.Proofs.Ytkinlkmmelkdnaa.GxSlicesCloneLoopExampleG01062ImplShadeLoopExampleG01062ImplShade
set_option linter.unusedVariables false
set_option linter.unusedSimpArgs false
open Go.RowKit
open Go.Proofs.Ytkinlkmmelkdnaa.Rowed Go.Proofs.Ytkinlkmmelkdnaa.Turn Go.Proofs.Ytkinlkmmelkdnaa.Aid Go.Proofs.Ytkinlkmmelkdnaa.GoP Go.Proofs.Ytkinlkmmelkdnaa.GoM

def P (s_0 : (List Go.Proofs.Ytkinlkmmelkdnaa.PShade.Shade)) : Option ((List Go.Proofs.Ytkinlkmmelkdnaa.PShade.Shade)) :=
  Go.Proofs.Ytkinlkmmelkdnaa.GoK.nilK s_0 fun (nt_2 : Bool) =>
  iteK nt_2
  (some [])
  (guardK (([] : List Go.Proofs.Ytkinlkmmelkdnaa.PShade.Shade).length + s_0.length ≤ 1099511627776) <|
  letK (([] : List Go.Proofs.Ytkinlkmmelkdnaa.PShade.Shade) ++ s_0) fun (t_6 : (List Go.Proofs.Ytkinlkmmelkdnaa.PShade.Shade)) =>
  some t_6)

set_option maxRecDepth 100000 in
set_option maxHeartbeats 2000000 in
theorem C (s_0 : (List Go.Proofs.Ytkinlkmmelkdnaa.PShade.Shade)) (A0 : Option Addr) (c0 : Nat)  (w : World) (M0 : Hid (Cells w 5 A0 s_0.length (Go.Proofs.Ytkinlkmmelkdnaa.PShade.flat s_0))) (N0 : Hid (s_0.length ≤ 9223372036854775807)) (Q0 : Hid (Room A0 s_0.length c0))  {r : (List Go.Proofs.Ytkinlkmmelkdnaa.PShade.Shade)} (H : Hid (P s_0 = some r)) :
    Calls Try.prog 105 #[.slice A0 s_0.length c0] w (fun e w' => ∃ A_r c_r, e = .returned (.slice A_r r.length c_r) ∧ w'.ownsRow w.heap.size 74 5 (.slice A_r r.length c_r) r.length (Go.Proofs.Ytkinlkmmelkdnaa.PShade.flat r) ∧ Below w.heap.size w w') := by
  have HB := Lib.hid (Below.refl w.heap.size w)
  unfold P at H
  have N0o := N0.out
  obtain ⟨i0_74, hi_74, hz0_74, hz1_74, hz2_74⟩ := Aid.info_parts (P := Try.prog) (T := 74) (z := .agg #[.string ByteArray.empty, .int .i64 0, .int .i64 0, .int .i64 0, .int .i64 0]) (s := 5) (b := 48) (by kernel_rfl)
  go_enter Try.func105, Try.ntmps105
  have mt_2 := Go.Proofs.Ytkinlkmmelkdnaa.GoK.nil_cells (l := s_0) (Cells.below M0.out HB.out) (fun h_ => by cases s_0 with | nil => rfl | cons y_ ys_ => simp [Go.Proofs.Ytkinlkmmelkdnaa.PShade.flat, Go.Proofs.Ytkinlkmmelkdnaa.PShade.Shade.cells] at h_)
  obtain ⟨nt_2, ht_2⟩ : ∃ z_, (A0 : Option Addr).isNone = z_ := ⟨_, rfl⟩
  have rt_2 : ∀ W_, (binOp .eql 63 (.slice A0 s_0.length c0) (.slice none 0 0)).run Try.prog W_ = .ok (.bool nt_2) W_ := by intro W_; rw [← ht_2]; exact Lib.run_eql_slice_nil W_ _ _ _ _ _ _ _ Try.underlying63
  replace H := Go.Proofs.Ytkinlkmmelkdnaa.GoK.nilK_hid H nt_2 (by rw [← ht_2]; exact mt_2) (by intro h_; subst h_; rfl)
  clear mt_2 ht_2
  cases nt_2 with
  | false =>
    replace H := ite_f H
    obtain ⟨w_t_4, hw_t_4⟩ : ∃ x, w.alloc (.cells #[] 74) = x := ⟨_, rfl⟩
    have bw_t_4 : Below w.heap.size w w_t_4 := by rw [← hw_t_4]; exact (Below.refl _ _).alloc (Nat.le_refl _) _
    have Ot_4 : Hid (w_t_4.ownsRow w.heap.size 74 5 (.slice (some ⟨w.heap.size, 0, none⟩) 0 0) 0 []) := Lib.hid (by rw [← hw_t_4]; exact own_empty HB.out.size)
    have HBw_t_4 := Lib.hid (Below.step HB.out bw_t_4)
    clear bw_t_4
    replace H := guard_hid H
    obtain ⟨hlt_6, H⟩ := H
    replace H := let_hid H
    obtain ⟨t_6, ht_6, H⟩ := H
    have hht_6 := Lib.hid ht_6
    clear ht_6
    have hst_6 := HBw_t_4.out.size
    have Ct_6 := Lib.hid ((Cells.below M0.out HBw_t_4.out))
    go_wp2_with (at_builtin; refine append_spread rfl _ _ 63 rfl w.heap.size 74 i0_74 (.agg #[.string ByteArray.empty, .int .i64 0, .int .i64 0, .int .i64 0, .int .i64 0]) 5 48 Try.underlying63 hi_74 hz0_74 hz1_74 hz2_74 rfl (by decide) (some ⟨w.heap.size, 0, none⟩) 0 0 _ rfl Ot_4.out A0 s_0.length c0 (Go.Proofs.Ytkinlkmmelkdnaa.PShade.flat s_0) rfl Q0.out Ct_6.out (fun u hu => by obtain ⟨y_, _, hy_⟩ := List.mem_flatMap.1 hu; simp only [Go.Proofs.Ytkinlkmmelkdnaa.PShade.Shade.cells, List.mem_cons, List.not_mem_nil, or_false] at hy_; rcases hy_ with rfl | rfl | rfl | rfl | rfl <;> rfl) (by unfold maxLen; simp only [List.length_nil] at hlt_6; omega) (by simp only [List.length_nil] at hlt_6; omega) hst_6 ?_; intro vt_6 wt_6 ot_6 gt_6 yt_6; obtain ⟨At_6, ct_6, rfl, pt_6⟩ := own_pushS (f := Go.Proofs.Ytkinlkmmelkdnaa.PShade.flat) hht_6.out (by simp [Go.Proofs.Ytkinlkmmelkdnaa.PShade.flat]) rfl ot_6; have Pt_6 := Lib.hid pt_6; have Yt_6 := Lib.hid yt_6; have Gt_6 := Lib.hid gt_6; clear ot_6 gt_6 pt_6 yt_6; refine stop_in ?_)
    refine stop_out ?_
    clear Ct_6
    have HBwt_6 := Lib.hid (HBw_t_4.out.grown Gt_6.out hst_6 (fun q hq => (Ot_4.out.lt q hq).1))
    clear hst_6
    clear Ot_4 Yt_6 Gt_6
    obtain rfl := ret_hid H
    go_wp2_with fail
    go_ret
    exact ⟨At_6, ct_6, rfl, Pt_6.out, HBwt_6.out⟩
  | true =>
    replace H := ite_t H
    obtain rfl := ret_hid H
    go_wp2_with fail
    go_ret
    exact ⟨none, 0, rfl, own_nil, HB.out⟩
end Go.Proofs.Ytkinlkmmelkdnaa.GxSlicesCloneLoopExampleG01062ImplShadeLoopExampleG01062ImplShade

/- loop.example/g01062/impl.onCircle as a plain function, and the contract of the program's: where the plain one has an answer, the program has it. Conditions: slices read as lists. -/
namespace Go.Proofs.Ytkinlkmmelkdnaa.GiOnCircle
set_option linter.unusedVariables false
set_option linter.unusedSimpArgs false
open Go.RowKit
open Go.Proofs.Ytkinlkmmelkdnaa.Rowed Go.Proofs.Ytkinlkmmelkdnaa.Turn Go.Proofs.Ytkinlkmmelkdnaa.Aid Go.Proofs.Ytkinlkmmelkdnaa.GoP Go.Proofs.Ytkinlkmmelkdnaa.GoM

def P (n_0 : Int) : Option (Int) :=
  letK (IntKind.i64.wrap (n_0 + 360)) fun (t_2 : Int) =>
  letK (Int.tmod t_2 360) fun (t_3 : Int) =>
  some t_3

set_option maxRecDepth 100000 in
set_option maxHeartbeats 2000000 in
theorem C (n_0 : Int)   (w : World)   {r : Int} (H : Hid (P n_0 = some r)) :
    Calls Try.prog 146 #[.int .i64 n_0] w (Gives (.int .i64 r) w) := by
  have HB := Lib.hid (Below.refl w.heap.size w)
  unfold P at H
  go_enter Try.func146, Try.ntmps146
  replace H := let_hid H
  obtain ⟨t_2, ht_2, H⟩ := H
  replace H := let_hid H
  obtain ⟨t_3, ht_3, H⟩ := H
  obtain rfl := ret_hid H
  go_wp2_with fail
  go_ret
  exact ⟨rfl, HB.out⟩

set_option maxRecDepth 100000 in
set_option maxHeartbeats 2000000 in
theorem C0 (n_0 : Int)   (w : World)   {r : Int} (H : Hid (P n_0 = some r)) :
    Calls Try.prog 146 #[.int .i64 n_0] w (fun e w'' => e = .returned (.int .i64 r) ∧ w'' = w) := by
  have HB := Lib.hid (Below.refl w.heap.size w)
  unfold P at H
  go_enter Try.func146, Try.ntmps146
  replace H := let_hid H
  obtain ⟨t_2, ht_2, H⟩ := H
  replace H := let_hid H
  obtain ⟨t_3, ht_3, H⟩ := H
  obtain rfl := ret_hid H
  go_wp2_with fail
  go_ret
  exact ⟨rfl, rfl⟩
end Go.Proofs.Ytkinlkmmelkdnaa.GiOnCircle

/- loop.example/g01062/impl.upwards as a plain function, and the contract of the program's: where the plain one has an answer, the program has it. Conditions: slices read as lists. -/
namespace Go.Proofs.Ytkinlkmmelkdnaa.GiUpwards
set_option linter.unusedVariables false
set_option linter.unusedSimpArgs false
open Go.RowKit
open Go.Proofs.Ytkinlkmmelkdnaa.Rowed Go.Proofs.Ytkinlkmmelkdnaa.Turn Go.Proofs.Ytkinlkmmelkdnaa.Aid Go.Proofs.Ytkinlkmmelkdnaa.GoP Go.Proofs.Ytkinlkmmelkdnaa.GoM

def P (a : Int) (b : Int) : Option (Int) :=
  letK (IntKind.i64.wrap (b - a)) fun (t_3 : Int) =>
  Option.bind (Go.Proofs.Ytkinlkmmelkdnaa.GiOnCircle.P t_3) fun (t_4 : Int) =>
  some t_4

set_option maxRecDepth 100000 in
set_option maxHeartbeats 2000000 in
theorem C (a : Int) (b : Int)   (w : World)   {r : Int} (H : Hid (P a b = some r)) :
    Calls Try.prog 138 #[.int .i64 a, .int .i64 b] w (Gives (.int .i64 r) w) := by
  have HB := Lib.hid (Below.refl w.heap.size w)
  unfold P at H
  go_enter Try.func138, Try.ntmps138
  replace H := let_hid H
  obtain ⟨t_3, ht_3, H⟩ := H
  replace H := bind_hid H
  obtain ⟨t_4, qt_4, H⟩ := H
  go_wp2_with fail
  go_at_call 146
  refine (Go.Proofs.Ytkinlkmmelkdnaa.GiOnCircle.C (t_3)  _    qt_4).mono ?_
  rintro e_t_4 wt_4 ⟨rfl, bt_4⟩
  have HBwt_4 := Lib.hid (Below.step HB.out bt_4)
  clear bt_4
  obtain rfl := ret_hid H
  go_wp2_with fail
  go_ret
  exact ⟨rfl, HBwt_4.out⟩
end Go.Proofs.Ytkinlkmmelkdnaa.GiUpwards

/- loop.example/g01062/impl.hueDistance as a plain function, and the contract of the program's: where the plain one has an answer, the program has it. Conditions: slices read as lists. -/
namespace Go.Proofs.Ytkinlkmmelkdnaa.GiLoHueDistance
set_option linter.unusedVariables false
set_option linter.unusedSimpArgs false
open Go.RowKit
open Go.Proofs.Ytkinlkmmelkdnaa.Rowed Go.Proofs.Ytkinlkmmelkdnaa.Turn Go.Proofs.Ytkinlkmmelkdnaa.Aid Go.Proofs.Ytkinlkmmelkdnaa.GoP Go.Proofs.Ytkinlkmmelkdnaa.GoM

def P (a : Int) (b : Int) : Option (Int) :=
  Option.bind (Go.Proofs.Ytkinlkmmelkdnaa.GiUpwards.P a b) fun (t_3 : Int) =>
  Option.bind (Go.Proofs.Ytkinlkmmelkdnaa.GiUpwards.P b a) fun (t_6 : Int) =>
  letK (min t_3 t_6) fun (t_7 : Int) =>
  some t_7

set_option maxRecDepth 100000 in
set_option maxHeartbeats 2000000 in
theorem C (a : Int) (b : Int)   (w : World)   {r : Int} (H : Hid (P a b = some r)) :
    Calls Try.prog 112 #[.int .i64 a, .int .i64 b] w (Gives (.int .i64 r) w) := by
  have HB := Lib.hid (Below.refl w.heap.size w)
  unfold P at H
  go_enter Try.func112, Try.ntmps112
  replace H := bind_hid H
  obtain ⟨t_3, qt_3, H⟩ := H
  go_wp2_with fail
  go_at_call 138
  refine (Go.Proofs.Ytkinlkmmelkdnaa.GiUpwards.C (a) (b)  _    qt_3).mono ?_
  rintro e_t_3 wt_3 ⟨rfl, bt_3⟩
  have HBwt_3 := Lib.hid (Below.step HB.out bt_3)
  clear bt_3
  replace H := bind_hid H
  obtain ⟨t_6, qt_6, H⟩ := H
  go_wp2_with fail
  go_at_call 138
  refine (Go.Proofs.Ytkinlkmmelkdnaa.GiUpwards.C (b) (a)  _    qt_6).mono ?_
  rintro e_t_6 wt_6 ⟨rfl, bt_6⟩
  have HBwt_6 := Lib.hid (Below.step HBwt_3.out bt_6)
  clear bt_6
  replace H := let_hid H
  obtain ⟨t_7, ht_7, H⟩ := H
  obtain rfl := ret_hid H
  go_wp2_with fail
  go_ret
  exact ⟨rfl, HBwt_6.out⟩
end Go.Proofs.Ytkinlkmmelkdnaa.GiLoHueDistance

/- loop.example/g01062/impl.takesIn as a plain function, and the contract of the program's: where the plain one has an answer, the program has it. Conditions: slices read as lists. -/
namespace Go.Proofs.Ytkinlkmmelkdnaa.GiTakesIn
set_option linter.unusedVariables false
set_option linter.unusedSimpArgs false
open Go.RowKit
open Go.Proofs.Ytkinlkmmelkdnaa.Rowed Go.Proofs.Ytkinlkmmelkdnaa.Turn Go.Proofs.Ytkinlkmmelkdnaa.Aid Go.Proofs.Ytkinlkmmelkdnaa.GoP Go.Proofs.Ytkinlkmmelkdnaa.GoM

def P (x : Go.Proofs.Ytkinlkmmelkdnaa.PShade.Shade) (hue : Int) (light : Int) : Option (Bool) :=
  unShade x fun (x_name : ByteArray) (x_hue : Int) (x_width : Int) (x_dark : Int) (x_light : Int) =>
  Option.bind (Go.Proofs.Ytkinlkmmelkdnaa.GiLoHueDistance.P x_hue hue) fun (t_5 : Int) =>
  letK (decide (t_5 ≤ x_width)) fun (t_8 : Bool) =>
  joinK (fun (t_16 : Bool) =>
  some t_16) fun jt_16 => iteK t_8 (Option.bind (Go.Proofs.Ytkinlkmmelkdnaa.GiWithin.P light x_dark x_light) fun (t_15 : Bool) =>
  appK jt_16 t_15) (appK jt_16 false)

set_option maxRecDepth 100000 in
set_option maxHeartbeats 2000000 in
theorem C (x : Go.Proofs.Ytkinlkmmelkdnaa.PShade.Shade) (hue : Int) (light : Int)   (w : World)   {r : Bool} (H : Hid (P x hue light = some r)) :
    Calls Try.prog 107 #[x.val, .int .i64 hue, .int .i64 light] w (Gives (.bool r) w) := by
  have HB := Lib.hid (Below.refl w.heap.size w)
  unfold P at H
  obtain ⟨x_name, x_hue, x_width, x_dark, x_light⟩ := x
  replace H := unShade_hid H
  unfold Go.Proofs.Ytkinlkmmelkdnaa.PShade.Shade.val
  go_enter Try.func107, Try.ntmps107
  obtain ⟨w_x_0, hw_x_0⟩ : ∃ x, w.alloc (.cells #[.string x_name, .int .i64 x_hue, .int .i64 x_width, .int .i64 x_dark, .int .i64 x_light] 74) = x := ⟨_, rfl⟩
  have bw_x_0 : Below w.heap.size w w_x_0 := by rw [← hw_x_0]; exact (Below.refl _ _).alloc (Nat.le_refl _) _
  have HBw_x_0 := Lib.hid (Below.step HB.out bw_x_0)
  clear bw_x_0
  have kx_0_0 : w_x_0.cell? ⟨w.heap.size, 0, none⟩ = some (.string x_name) := by rw [← hw_x_0]; exact box_new _ _ _ 0 _ rfl
  have kx_0_1 : w_x_0.cell? ⟨w.heap.size, 1, none⟩ = some (.int .i64 x_hue) := by rw [← hw_x_0]; exact box_new _ _ _ 1 _ rfl
  have kx_0_2 : w_x_0.cell? ⟨w.heap.size, 2, none⟩ = some (.int .i64 x_width) := by rw [← hw_x_0]; exact box_new _ _ _ 2 _ rfl
  have kx_0_3 : w_x_0.cell? ⟨w.heap.size, 3, none⟩ = some (.int .i64 x_dark) := by rw [← hw_x_0]; exact box_new _ _ _ 3 _ rfl
  have kx_0_4 : w_x_0.cell? ⟨w.heap.size, 4, none⟩ = some (.int .i64 x_light) := by rw [← hw_x_0]; exact box_new _ _ _ 4 _ rfl
  go_wp2_with fail
  have Hkx_0_0 := Lib.hid kx_0_0
  replace kx_0_0 := cell_regrown kx_0_0
  have Hkx_0_1 := Lib.hid kx_0_1
  replace kx_0_1 := cell_regrown kx_0_1
  have Hkx_0_2 := Lib.hid kx_0_2
  replace kx_0_2 := cell_regrown kx_0_2
  have Hkx_0_3 := Lib.hid kx_0_3
  replace kx_0_3 := cell_regrown kx_0_3
  have Hkx_0_4 := Lib.hid kx_0_4
  replace kx_0_4 := cell_regrown kx_0_4
  replace H := bind_hid H
  obtain ⟨t_5, qt_5, H⟩ := H
  have nt_5 : ∀ d os, Calls Try.prog 112 #[.int .i64 x_hue, .int .i64 hue] (Go.Sort.grow (redrawn w_x_0 d) os) fun e w'' => e = .returned (.int .i64 t_5) ∧ ∃ p : Regrown, w'' = Go.Sort.grow (redrawn w_x_0 p.d) p.os := fun d os => Calls.regrown_of (Go.Proofs.Ytkinlkmmelkdnaa.GiLoHueDistance.C (x_hue) (hue)  _    qt_5)
  replace H := let_hid H
  obtain ⟨t_8, ht_8, H⟩ := H
  replace H := join_hid H
  cases t_8 with
  | false =>
    replace H := ite_f H
    replace H := app_hid H
    refine wp_region_quiet_below (by kernel_rfl) (by kernel_rfl) ?_
    repeat (go_big_quiet_step (first | (go_at_call 112; exact nt_5 _ _)))
    refine wpQuiet_nil ?_
    intro Y1 hY1
    replace hY1 := below_class hY1
    clear nt_5
    replace kx_0_0 := Hkx_0_0.out
    clear Hkx_0_0
    replace kx_0_1 := Hkx_0_1.out
    clear Hkx_0_1
    replace kx_0_2 := Hkx_0_2.out
    clear Hkx_0_2
    replace kx_0_3 := Hkx_0_3.out
    clear Hkx_0_3
    replace kx_0_4 := Hkx_0_4.out
    clear Hkx_0_4
    have HBY1 := Lib.hid (Below.step HBw_x_0.out hY1)
    replace kx_0_0 := cell_below hY1 kx_0_0
    replace kx_0_1 := cell_below hY1 kx_0_1
    replace kx_0_2 := cell_below hY1 kx_0_2
    replace kx_0_3 := cell_below hY1 kx_0_3
    replace kx_0_4 := cell_below hY1 kx_0_4
    clear hY1
    obtain rfl := ret_hid H
    go_wp2_with fail
    go_ret
    exact ⟨rfl, HBY1.out⟩
  | true =>
    replace H := ite_t H
    replace H := bind_hid H
    obtain ⟨t_15, qt_15, H⟩ := H
    have nt_15 : ∀ d os, Calls Try.prog 86 #[.int .i64 light, .int .i64 x_dark, .int .i64 x_light] (Go.Sort.grow (redrawn w_x_0 d) os) fun e w'' => e = .returned (.bool t_15) ∧ ∃ p : Regrown, w'' = Go.Sort.grow (redrawn w_x_0 p.d) p.os := fun d os => Calls.regrown_of (Go.Proofs.Ytkinlkmmelkdnaa.GiWithin.C (light) (x_dark) (x_light)  _    qt_15)
    replace H := app_hid H
    refine wp_region_quiet_below (by kernel_rfl) (by kernel_rfl) ?_
    repeat (go_big_quiet_step (first | (go_at_call 112; exact nt_5 _ _) | (go_at_call 86; exact nt_15 _ _)))
    refine wpQuiet_nil ?_
    intro Y1 hY1
    replace hY1 := below_class hY1
    clear nt_5 nt_15
    replace kx_0_0 := Hkx_0_0.out
    clear Hkx_0_0
    replace kx_0_1 := Hkx_0_1.out
    clear Hkx_0_1
    replace kx_0_2 := Hkx_0_2.out
    clear Hkx_0_2
    replace kx_0_3 := Hkx_0_3.out
    clear Hkx_0_3
    replace kx_0_4 := Hkx_0_4.out
    clear Hkx_0_4
    have HBY1 := Lib.hid (Below.step HBw_x_0.out hY1)
    replace kx_0_0 := cell_below hY1 kx_0_0
    replace kx_0_1 := cell_below hY1 kx_0_1
    replace kx_0_2 := cell_below hY1 kx_0_2
    replace kx_0_3 := cell_below hY1 kx_0_3
    replace kx_0_4 := cell_below hY1 kx_0_4
    clear hY1
    obtain rfl := ret_hid H
    go_wp2_with fail
    go_ret
    exact ⟨rfl, HBY1.out⟩
end Go.Proofs.Ytkinlkmmelkdnaa.GiTakesIn

/- loop.example/g01062/impl.BestShade$1 as a plain function, and the contract of the program's: where the plain one has an answer, the program has it. Conditions: slices read as lists. -/
namespace Go.Proofs.Ytkinlkmmelkdnaa.GiBestShade1
set_option linter.unusedVariables false
set_option linter.unusedSimpArgs false
open Go.RowKit
open Go.Proofs.Ytkinlkmmelkdnaa.Rowed Go.Proofs.Ytkinlkmmelkdnaa.Turn Go.Proofs.Ytkinlkmmelkdnaa.Aid Go.Proofs.Ytkinlkmmelkdnaa.GoP Go.Proofs.Ytkinlkmmelkdnaa.GoM

def P (x : Go.Proofs.Ytkinlkmmelkdnaa.PShade.Shade) (hq0 : Int) (hq1 : Int) : Option (Bool) :=
  unShade x fun (x_name : ByteArray) (x_hue : Int) (x_width : Int) (x_dark : Int) (x_light : Int) =>
  Option.bind (Go.Proofs.Ytkinlkmmelkdnaa.GiTakesIn.P (Go.Proofs.Ytkinlkmmelkdnaa.PShade.Shade.mk x_name x_hue x_width x_dark x_light) hq0 hq1) fun (t_5 : Bool) =>
  letK (!t_5) fun (t_6 : Bool) =>
  some t_6

set_option maxRecDepth 100000 in
set_option maxHeartbeats 2000000 in
theorem C (x : Go.Proofs.Ytkinlkmmelkdnaa.PShade.Shade) (hq0 : Int) (hq1 : Int)  (gq0 : Nat) (gq1 : Nat) (w : World)  (Fq0h : Hid (w.cell? ⟨gq0, 0, none⟩ = some (.int .i64 hq0))) (Fq1h : Hid (w.cell? ⟨gq1, 0, none⟩ = some (.int .i64 hq1))) {r : Bool} (H : Hid (P x hq0 hq1 = some r)) :
    Calls Try.prog 106 #[x.val, .pointer (some ⟨gq0, 0, none⟩), .pointer (some ⟨gq1, 0, none⟩)] w (Gives (.bool r) w) := by
  have HB := Lib.hid (Below.refl w.heap.size w)
  unfold P at H
  obtain ⟨x_name, x_hue, x_width, x_dark, x_light⟩ := x
  replace H := unShade_hid H
  unfold Go.Proofs.Ytkinlkmmelkdnaa.PShade.Shade.val
  have Fq0 := Fq0h.out
  have Fq1 := Fq1h.out
  go_enter Try.func106, Try.ntmps106
  obtain ⟨w_x_0, hw_x_0⟩ : ∃ x, w.alloc (.cells #[.string x_name, .int .i64 x_hue, .int .i64 x_width, .int .i64 x_dark, .int .i64 x_light] 74) = x := ⟨_, rfl⟩
  have bw_x_0 : Below w.heap.size w w_x_0 := by rw [← hw_x_0]; exact (Below.refl _ _).alloc (Nat.le_refl _) _
  have HBw_x_0 := Lib.hid (Below.step HB.out bw_x_0)
  have Fq0__383 := cell_below bw_x_0 Fq0
  have Fq1__384 := cell_below bw_x_0 Fq1
  clear bw_x_0
  have kx_0_0 : w_x_0.cell? ⟨w.heap.size, 0, none⟩ = some (.string x_name) := by rw [← hw_x_0]; exact box_new _ _ _ 0 _ rfl
  have kx_0_1 : w_x_0.cell? ⟨w.heap.size, 1, none⟩ = some (.int .i64 x_hue) := by rw [← hw_x_0]; exact box_new _ _ _ 1 _ rfl
  have kx_0_2 : w_x_0.cell? ⟨w.heap.size, 2, none⟩ = some (.int .i64 x_width) := by rw [← hw_x_0]; exact box_new _ _ _ 2 _ rfl
  have kx_0_3 : w_x_0.cell? ⟨w.heap.size, 3, none⟩ = some (.int .i64 x_dark) := by rw [← hw_x_0]; exact box_new _ _ _ 3 _ rfl
  have kx_0_4 : w_x_0.cell? ⟨w.heap.size, 4, none⟩ = some (.int .i64 x_light) := by rw [← hw_x_0]; exact box_new _ _ _ 4 _ rfl
  replace H := bind_hid H
  obtain ⟨t_5, qt_5, H⟩ := H
  go_wp2_with fail
  clear Fq0 Fq1
  go_at_call 107
  refine (Go.Proofs.Ytkinlkmmelkdnaa.GiTakesIn.C ((Go.Proofs.Ytkinlkmmelkdnaa.PShade.Shade.mk x_name x_hue x_width x_dark x_light)) (hq0) (hq1)  _    qt_5).mono ?_
  rintro e_t_5 wt_5 ⟨rfl, bt_5⟩
  have HBwt_5 := Lib.hid (Below.step HBw_x_0.out bt_5)
  replace Fq0__383 := cell_below bt_5 Fq0__383
  replace Fq1__384 := cell_below bt_5 Fq1__384
  replace kx_0_0 := cell_below bt_5 kx_0_0
  replace kx_0_1 := cell_below bt_5 kx_0_1
  replace kx_0_2 := cell_below bt_5 kx_0_2
  replace kx_0_3 := cell_below bt_5 kx_0_3
  replace kx_0_4 := cell_below bt_5 kx_0_4
  clear bt_5
  cases t_5 with
  | false =>
    replace H := let_hid H
    obtain ⟨t_6, ht_6, H⟩ := H
    obtain rfl : t_6 = true := ht_6.symm
    obtain rfl := ret_hid H
    go_wp2_with fail
    go_ret
    exact ⟨rfl, HBwt_5.out⟩
  | true =>
    replace H := let_hid H
    obtain ⟨t_6, ht_6, H⟩ := H
    obtain rfl : t_6 = false := ht_6.symm
    obtain rfl := ret_hid H
    go_wp2_with fail
    go_ret
    exact ⟨rfl, HBwt_5.out⟩
end Go.Proofs.Ytkinlkmmelkdnaa.GiBestShade1

/- slices.IndexFunc[[]loop.example/g01062/impl.Shade,loop.example/g01062/impl.Shade] as a plain function, and the contract of the program's: where the plain one has an answer, the program has it. Conditions: slices read as lists. -/
namespace Go.Proofs.Ytkinlkmmelkdnaa.GxSlicesIndexFuncLoopExampleG01062ImplShadeLoopExampleG01062ImplShadeiBestShade1
set_option linter.unusedVariables false
set_option linter.unusedSimpArgs false
open Go.RowKit
open Go.Proofs.Ytkinlkmmelkdnaa.Rowed Go.Proofs.Ytkinlkmmelkdnaa.Turn Go.Proofs.Ytkinlkmmelkdnaa.Aid Go.Proofs.Ytkinlkmmelkdnaa.GoP Go.Proofs.Ytkinlkmmelkdnaa.GoM

def l0 (s_0 : (List Go.Proofs.Ytkinlkmmelkdnaa.PShade.Shade)) (hf1_0 : Int) (hf1_1 : Int) (k0 : Nat) (s : Unit) (nx0 bk0 : Unit → Option (Int)) : Option (Int) :=
  
  Option.bind (idx s_0 (k0 : Int)) fun (yt_10 : Go.Proofs.Ytkinlkmmelkdnaa.PShade.Shade) =>
  unShade yt_10 fun (t_10_name : ByteArray) (t_10_hue : Int) (t_10_width : Int) (t_10_dark : Int) (t_10_light : Int) =>
  Option.bind (Go.Proofs.Ytkinlkmmelkdnaa.GiBestShade1.P (Go.Proofs.Ytkinlkmmelkdnaa.PShade.Shade.mk t_10_name t_10_hue t_10_width t_10_dark t_10_light) hf1_0 hf1_1) fun (t_12 : Bool) =>
  iteK t_12
  (some (k0 : Int))
  (appK nx0 ())

def e0  (s : Unit) : Option (Int) :=
  
  some (-1)

def P (s_0 : (List Go.Proofs.Ytkinlkmmelkdnaa.PShade.Shade)) (hf1_0 : Int) (hf1_1 : Int) : Option (Int) :=
  cntK (l0 s_0 hf1_0 hf1_1) (s_0.length) 0 () (e0 )

set_option maxRecDepth 100000 in
set_option maxHeartbeats 2000000 in
theorem C (s_0 : (List Go.Proofs.Ytkinlkmmelkdnaa.PShade.Shade)) (hf1_0 : Int) (hf1_1 : Int) (A0 : Option Addr) (c0 : Nat) (gf1_0 : Nat) (gf1_1 : Nat) (w : World) (M0 : Hid (Cells w 5 A0 s_0.length (Go.Proofs.Ytkinlkmmelkdnaa.PShade.flat s_0))) (N0 : Hid (s_0.length ≤ 9223372036854775807)) (Ff1_0h : Hid (w.cell? ⟨gf1_0, 0, none⟩ = some (.int .i64 hf1_0))) (Ff1_1h : Hid (w.cell? ⟨gf1_1, 0, none⟩ = some (.int .i64 hf1_1))) {r : Int} (H : Hid (P s_0 hf1_0 hf1_1 = some r)) :
    Calls Try.prog 136 #[.slice A0 s_0.length c0, .func (.func 106) #[] #[.pointer (some ⟨gf1_0, 0, none⟩), .pointer (some ⟨gf1_1, 0, none⟩)]] w (Gives (.int .i64 r) w) := by
  have HB := Lib.hid (Below.refl w.heap.size w)
  unfold P at H
  have N0o := N0.out
  have Ff1_0 := Ff1_0h.out
  have Ff1_1 := Ff1_1h.out
  go_enter Try.func136, Try.ntmps136
  go_wp2_with fail
  go_loopg [8] (s_0.length) (fun m_ v8_ wr => ∃ (k0 : Nat) , k0 + m_ = s_0.length ∧ v8_ = .int .i64 (k0 : Int) ∧ Hid (cntK (l0 s_0 hf1_0 hf1_1) m_ k0 () (e0 ) = some r) ∧ Hid (Below w.heap.size w wr) ∧ wr.cell? ⟨gf1_0, 0, none⟩ = some (.int .i64 hf1_0) ∧ wr.cell? ⟨gf1_1, 0, none⟩ = some (.int .i64 hf1_1))
  case atStart => exact ⟨0, by omega, rfl, H, HB, Ff1_0, Ff1_1⟩
  case round =>
    obtain ⟨k0, hkm0, rfl, H, HBwr0, Ff1_0, Ff1_1⟩ := hrel
    rename World => wr0
    cases gk with
    | zero =>
      obtain rfl : k0 = s_0.length := by omega
      have hc0 : decide (((s_0.length : Nat) : Int) < ((s_0.length : Nat) : Int)) = false := by simp
      replace H := cnt_zero H
      unfold e0 at H
      obtain rfl := ret_hid H
      go_wp2_with fail
      go_ret
      exact ⟨rfl, HBwr0.out⟩
    | succ m0 =>
      have hlt0 : k0 < s_0.length := by omega
      have hc0 : decide ((k0 : Int) < ((s_0.length : Nat) : Int)) = true := by simp; omega
      replace H := cnt_succ H
      unfold l0 at H
      replace H := idx_hid H
      obtain ⟨nt_10, yt_10, et_10, lt_10, gt_10, H⟩ := H
      obtain rfl : k0 = nt_10 := by omega
      clear et_10
      obtain ⟨t_10_name, t_10_hue, t_10_width, t_10_dark, t_10_light⟩ := yt_10
      replace H := unShade_hid H
      obtain ⟨ab_t_10, ao_t_10, zt_10, At_10, z_t_10, ct_10_0, ct_10_1, ct_10_2, ct_10_3, ct_10_4⟩ := Go.Proofs.Ytkinlkmmelkdnaa.OShade.at_ M0.out lt_10
      obtain rfl := Option.some.inj (gt_10.out.symm.trans z_t_10)
      subst At_10
      have ltt_10 := cell_lt ct_10_0
      replace ct_10_0 := cell_below HBwr0.out ct_10_0
      replace ct_10_1 := cell_below HBwr0.out ct_10_1
      replace ct_10_2 := cell_below HBwr0.out ct_10_2
      replace ct_10_3 := cell_below HBwr0.out ct_10_3
      replace ct_10_4 := cell_below HBwr0.out ct_10_4
      clear z_t_10
      have b0t_10 : (0 : Int) ≤ (k0 : Int) := by omega
      have b1t_10 : (k0 : Int) < ((s_0.length : Nat) : Int) := by omega
      have b2t_10 : ((k0 : Int)).toNat = k0 := by omega
      replace H := bind_hid H
      obtain ⟨t_12, qt_12, H⟩ := H
      go_wp2_with fail
      go_at_call 106
      refine (Go.Proofs.Ytkinlkmmelkdnaa.GiBestShade1.C ((Go.Proofs.Ytkinlkmmelkdnaa.PShade.Shade.mk t_10_name t_10_hue t_10_width t_10_dark t_10_light)) (hf1_0) (hf1_1) (gf1_0) (gf1_1) _   (Lib.hid Ff1_0) (Lib.hid Ff1_1) qt_12).mono ?_
      rintro e_t_12 wt_12 ⟨rfl, bt_12⟩
      have HBwt_12 := Lib.hid (Below.step HBwr0.out bt_12)
      replace Ff1_0 := cell_below bt_12 Ff1_0
      replace Ff1_1 := cell_below bt_12 Ff1_1
      replace ct_10_0 := cell_below bt_12 ct_10_0
      replace ct_10_1 := cell_below bt_12 ct_10_1
      replace ct_10_2 := cell_below bt_12 ct_10_2
      replace ct_10_3 := cell_below bt_12 ct_10_3
      replace ct_10_4 := cell_below bt_12 ct_10_4
      clear bt_12
      cases t_12 with
      | false =>
        replace H := ite_f H
        replace H := app_hid H
        go_wp2_with fail
        go_roundg m0
        case measure => omega
        case rel => exact ⟨k0 + 1, by omega, by go_num, H, HBwt_12, Ff1_0, Ff1_1⟩
      | true =>
        replace H := ite_t H
        obtain rfl := ret_hid H
        go_wp2_with fail
        go_ret
        exact ⟨rfl, HBwt_12.out⟩
end Go.Proofs.Ytkinlkmmelkdnaa.GxSlicesIndexFuncLoopExampleG01062ImplShadeLoopExampleG01062ImplShadeiBestShade1

/- slices.DeleteFunc[[]loop.example/g01062/impl.Shade,loop.example/g01062/impl.Shade] as a plain function, and the contract of the program's: where the plain one has an answer, the program has it. Conditions: slices read as lists. -/
namespace Go.Proofs.Ytkinlkmmelkdnaa.GxSlicesDeleteFuncLoopExampleG01062ImplShadeLoopExampleG01062ImplShadeiBestShade1
set_option linter.unusedVariables false
set_option linter.unusedSimpArgs false
open Go.RowKit
open Go.Proofs.Ytkinlkmmelkdnaa.Rowed Go.Proofs.Ytkinlkmmelkdnaa.Turn Go.Proofs.Ytkinlkmmelkdnaa.Aid Go.Proofs.Ytkinlkmmelkdnaa.GoP Go.Proofs.Ytkinlkmmelkdnaa.GoM

def l0 (hf1_0 : Int) (hf1_1 : Int) (s : (List Go.Proofs.Ytkinlkmmelkdnaa.PShade.Shade) × Int × Int) (nx0 bk0 : (List Go.Proofs.Ytkinlkmmelkdnaa.PShade.Shade) × Int × Int → Option ((List Go.Proofs.Ytkinlkmmelkdnaa.PShade.Shade))) : Option ((List Go.Proofs.Ytkinlkmmelkdnaa.PShade.Shade)) :=
  unp3 s fun s_0l0 i_5l0 j_6l0 =>
  letK (decide (j_6l0 < (s_0l0.length : Int))) fun (t_15 : Bool) =>
  iteK t_15
  (Option.bind (idx s_0l0 j_6l0) fun (yt_18 : Go.Proofs.Ytkinlkmmelkdnaa.PShade.Shade) =>
  unShade yt_18 fun (t_18_name : ByteArray) (t_18_hue : Int) (t_18_width : Int) (t_18_dark : Int) (t_18_light : Int) =>
  Option.bind (Go.Proofs.Ytkinlkmmelkdnaa.GiBestShade1.P (Go.Proofs.Ytkinlkmmelkdnaa.PShade.Shade.mk t_18_name t_18_hue t_18_width t_18_dark t_18_light) hf1_0 hf1_1) fun (t_24 : Bool) =>
  letK (!t_24) fun (t_25 : Bool) =>
  iteK t_25
  (Option.bind (idx s_0l0 i_5l0) fun (yt_29 : Go.Proofs.Ytkinlkmmelkdnaa.PShade.Shade) =>
  unShade yt_29 fun (t_29_name : ByteArray) (t_29_hue : Int) (t_29_width : Int) (t_29_dark : Int) (t_29_light : Int) =>
  letK (s_0l0.set (i_5l0).toNat (Go.Proofs.Ytkinlkmmelkdnaa.PShade.Shade.mk t_18_name t_18_hue t_18_width t_18_dark t_18_light)) fun (l30_30 : (List Go.Proofs.Ytkinlkmmelkdnaa.PShade.Shade)) =>
  letK (IntKind.i64.wrap (i_5l0 + 1)) fun (t_32 : Int) =>
  letK (IntKind.i64.wrap (j_6l0 + 1)) fun (t_35 : Int) =>
  appK nx0 (l30_30, t_32, t_35))
  (letK (IntKind.i64.wrap (j_6l0 + 1)) fun (t_35 : Int) =>
  appK nx0 (s_0l0, i_5l0, t_35)))
  (appK bk0 (s_0l0, i_5l0, j_6l0))

def e0  (s : (List Go.Proofs.Ytkinlkmmelkdnaa.PShade.Shade) × Int × Int) : Option ((List Go.Proofs.Ytkinlkmmelkdnaa.PShade.Shade)) :=
  unp3 s fun s_0l0 i_5l0 j_6l0 =>
  guardK ((0 : Int) ≤ i_5l0 ∧ (i_5l0 : Int) ≤ (s_0l0.length : Int)) <|
  letK (List.take (Int.toNat i_5l0) s_0l0 ++ List.replicate (s_0l0.length - Int.toNat i_5l0) (Go.Proofs.Ytkinlkmmelkdnaa.PShade.Shade.mk ByteArray.empty 0 0 0 0)) fun (cl_40 : (List Go.Proofs.Ytkinlkmmelkdnaa.PShade.Shade)) =>
  guardK ((0 : Int) ≤ i_5l0 ∧ (i_5l0 : Int) ≤ (cl_40.length : Int)) <|
  letK (List.take (Int.toNat i_5l0) cl_40) fun (t_43 : (List Go.Proofs.Ytkinlkmmelkdnaa.PShade.Shade)) =>
  some t_43

def P (fuel : Nat) (s_0 : (List Go.Proofs.Ytkinlkmmelkdnaa.PShade.Shade)) (hf1_0 : Int) (hf1_1 : Int) : Option ((List Go.Proofs.Ytkinlkmmelkdnaa.PShade.Shade)) :=
  Option.bind (Go.Proofs.Ytkinlkmmelkdnaa.GxSlicesIndexFuncLoopExampleG01062ImplShadeLoopExampleG01062ImplShadeiBestShade1.P s_0 hf1_0 hf1_1) fun (t_3 : Int) =>
  letK (t_3 == (-1)) fun (t_6 : Bool) =>
  iteK t_6
  (some s_0)
  (letK (IntKind.i64.wrap (t_3 + 1)) fun (t_10 : Int) =>
  loopK (l0 hf1_0 hf1_1) fuel (s_0, t_3, t_10) (e0 ))

set_option maxRecDepth 100000 in
set_option maxHeartbeats 2000000 in
theorem C (fuel : Nat) (s_0 : (List Go.Proofs.Ytkinlkmmelkdnaa.PShade.Shade)) (hf1_0 : Int) (hf1_1 : Int) (A0 : Option Addr) (c0 : Nat) (gf1_0 : Nat) (gf1_1 : Nat) (b0 : Nat) (w : World) (M0 : Hid (w.ownsRow b0 74 5 (.slice A0 s_0.length c0) s_0.length (Go.Proofs.Ytkinlkmmelkdnaa.PShade.flat s_0))) (N0 : Hid (s_0.length ≤ 9223372036854775807)) (Ff1_0h : Hid (w.cell? ⟨gf1_0, 0, none⟩ = some (.int .i64 hf1_0))) (Ff1_1h : Hid (w.cell? ⟨gf1_1, 0, none⟩ = some (.int .i64 hf1_1))) (LB : Hid (b0 ≤ w.heap.size)) (XHgf1_0 : Hid (Apart A0 (some ⟨gf1_0, 0, none⟩))) (XHgf1_1 : Hid (Apart A0 (some ⟨gf1_1, 0, none⟩))) {r : (List Go.Proofs.Ytkinlkmmelkdnaa.PShade.Shade)} (H : Hid (P fuel s_0 hf1_0 hf1_1 = some r)) :
    Calls Try.prog 104 #[.slice A0 s_0.length c0, .func (.func 106) #[] #[.pointer (some ⟨gf1_0, 0, none⟩), .pointer (some ⟨gf1_1, 0, none⟩)]] w (fun e w' => ∃ A_r c_r, e = .returned (.slice A_r r.length c_r) ∧ w'.ownsRow b0 74 5 (.slice A_r r.length c_r) r.length (Go.Proofs.Ytkinlkmmelkdnaa.PShade.flat r) ∧ w.grownBy w' (Value.slice A0 s_0.length c0).ownBlock ∧ Go.Proofs.Ytkinlkmmelkdnaa.GoK.From w A0 A_r) := by
  have HB := Lib.hid (Aid.grown_refl w (Value.slice A0 s_0.length c0).ownBlock)
  unfold P at H
  have N0o := N0.out
  have Ff1_0 := Ff1_0h.out
  have Ff1_1 := Ff1_1h.out
  obtain ⟨i0_74, hi_74, hz0_74, hz1_74, hz2_74⟩ := Aid.info_parts (P := Try.prog) (T := 74) (z := .agg #[.string ByteArray.empty, .int .i64 0, .int .i64 0, .int .i64 0, .int .i64 0]) (s := 5) (b := 48) (by kernel_rfl)
  go_enter Try.func104, Try.ntmps104
  replace H := bind_hid H
  obtain ⟨t_3, qt_3, H⟩ := H
  go_wp2_with fail
  go_at_call 136
  refine (Go.Proofs.Ytkinlkmmelkdnaa.GxSlicesIndexFuncLoopExampleG01062ImplShadeLoopExampleG01062ImplShadeiBestShade1.C (s_0) (hf1_0) (hf1_1) A0 c0 (gf1_0) (gf1_1) _   (Lib.hid (own_cells M0.out)) (Lib.hid (own_max M0.out)) (Lib.hid Ff1_0) (Lib.hid Ff1_1) qt_3).mono ?_
  rintro e_t_3 wt_3 ⟨rfl, bt_3⟩
  have HBwt_3 := Lib.hid (grown_below HB.out bt_3)
  replace Ff1_0 := cell_below bt_3 Ff1_0
  replace Ff1_1 := cell_below bt_3 Ff1_1
  replace M0 := Lib.hid (own_below M0.out bt_3)
  clear bt_3
  replace H := let_hid H
  obtain ⟨t_6, ht_6, H⟩ := H
  cases t_6 with
  | false =>
    replace H := ite_f H
    replace H := let_hid H
    obtain ⟨t_10, ht_10, H⟩ := H
    go_wp2_with fail
    go_wp2_with fail
    go_loopg [5, 6] (fuel) (fun m_ v5_ v6_ wr => ∃ (s_0l0 : (List Go.Proofs.Ytkinlkmmelkdnaa.PShade.Shade)) (i_5l0 : Int) (j_6l0 : Int), v5_ = .int .i64 i_5l0 ∧ v6_ = .int .i64 j_6l0 ∧ Hid (loopK (l0 hf1_0 hf1_1) m_ (s_0l0, i_5l0, j_6l0) (e0 ) = some r) ∧ Hid (w.grownBy wr (Value.slice A0 s_0.length c0).ownBlock) ∧ wr.cell? ⟨gf1_0, 0, none⟩ = some (.int .i64 hf1_0) ∧ wr.cell? ⟨gf1_1, 0, none⟩ = some (.int .i64 hf1_1) ∧ Hid (wr.ownsRow b0 74 5 (.slice A0 s_0.length c0) s_0.length (Go.Proofs.Ytkinlkmmelkdnaa.PShade.flat s_0l0)) ∧ Hid (s_0l0.length = s_0.length))
    case atStart => exact ⟨_, _, _, rfl, rfl, H, HBwt_3, Ff1_0, Ff1_1, M0, Lib.hid (rfl)⟩
    case round =>
      obtain ⟨s_0l0, i_5l0, j_6l0, rfl, rfl, H, HBwr0, Ff1_0, Ff1_1, Os_0l0, hns_0l0⟩ := hrel
      rename World => wr0
      cases gk with
      | zero => exact (loop_zero H).elim
      | succ m0 =>
        replace H := loop_succ H
        unfold l0 at H
        replace H := unp3_hid H
        try rw [show s_0l0.length = s_0.length from hns_0l0.out] at H
        replace H := let_hid H
        obtain ⟨t_15, ht_15, H⟩ := H
        cases t_15 with
        | false =>
          replace H := ite_f H
          replace H := app_hid H
          unfold e0 at H
          replace H := unp3_hid H
          try rw [show s_0l0.length = s_0.length from hns_0l0.out] at H
          replace H := guard_hid H
          obtain ⟨hl_cl_40, H⟩ := H
          replace H := let_hid H
          obtain ⟨cl_40, hcl_40, H⟩ := H
          have dcl_40 : ((Go.Proofs.Ytkinlkmmelkdnaa.PShade.flat s_0l0)).take (Int.toNat i_5l0 * 5) ++ (List.replicate (s_0.length - Int.toNat i_5l0) [.string (⟨#[]⟩ : ByteArray), .int .i64 0, .int .i64 0, .int .i64 0, .int .i64 0]).flatten = (Go.Proofs.Ytkinlkmmelkdnaa.PShade.flat cl_40) := by rw [← hcl_40]; exact Go.Proofs.Ytkinlkmmelkdnaa.GoD.flat_clear Go.Proofs.Ytkinlkmmelkdnaa.PShade.Shade.cells 5 (fun _ => rfl) s_0l0 (Int.toNat i_5l0) (s_0.length - Int.toNat i_5l0) ((Go.Proofs.Ytkinlkmmelkdnaa.PShade.Shade.mk ByteArray.empty 0 0 0 0))
          have ncl_40 : Hid (cl_40.length = s_0.length) := Lib.hid (by have hq_ := hns_0l0.out; rw [← hcl_40, List.length_append, List.length_take, List.length_replicate]; omega)
          obtain ⟨Acl_40, mcl_40, ccl_40, wcl_40, rcl_40, ucl_40, ocl_40, gcl_40⟩ := Go.Proofs.Ytkinlkmmelkdnaa.GoD.own_clearK (P := Try.prog) (t := 63) (e := 74) (k := .i64) (zs := [.string (⟨#[]⟩ : ByteArray), .int .i64 0, .int .i64 0, .int .i64 0, .int .i64 0]) (by kernel_rfl) (by kernel_rfl) hi_74 hz1_74 hz0_74 (by rfl) (by rfl) (by decide) (by intro u_ hu_; simp only [List.mem_cons, List.not_mem_nil, or_false] at hu_; rcases hu_ with rfl | rfl | rfl | rfl | rfl <;> rfl) Os_0l0.out hl_cl_40 dcl_40
          have Pcl_40 := Lib.hid ocl_40
          have Gcl_40 := Lib.hid gcl_40
          clear ocl_40 gcl_40 dcl_40 hl_cl_40
          have hhcl_40 := Lib.hid hcl_40
          clear hcl_40
          have HBwcl_40 := Lib.hid (Aid.grown_tr HBwr0.out Gcl_40.out)
          have Ff1_0__385 := cell_other Ff1_0 Gcl_40.out XHgf1_0.out
          have Ff1_1__386 := cell_other Ff1_1 Gcl_40.out XHgf1_1.out
          clear Os_0l0 Gcl_40
          replace H := guard_hid H
          obtain ⟨hl_t_43, H⟩ := H
          replace H := let_hid H
          obtain ⟨t_43, ht_43, H⟩ := H
          have dt_43 : ((Go.Proofs.Ytkinlkmmelkdnaa.PShade.flat cl_40)).take (Int.toNat i_5l0 * 5) = (Go.Proofs.Ytkinlkmmelkdnaa.PShade.flat t_43) := by
            rw [← ht_43]
            exact flat_take Go.Proofs.Ytkinlkmmelkdnaa.PShade.Shade.cells 5 (fun _ => rfl) _ _
          have nt_43 : Int.toNat i_5l0 = t_43.length := by rw [← ht_43, List.length_take]; have h_ := ncl_40.out; omega
          replace hl_t_43 : (0 : Int) ≤ i_5l0 ∧ (i_5l0 : Int) ≤ ((s_0.length : Nat) : Int) := by have h_ := ncl_40.out; omega
          obtain ⟨rt_43, Ot_43⟩ := slice_head (P := Try.prog) (t := 63) (e := 74) (k := .i64) (by kernel_rfl) (by kernel_rfl) hi_74 hz1_74 Pcl_40.out hl_t_43 nt_43 dt_43
          replace Ot_43 := Lib.hid Ot_43
          clear dt_43 nt_43 hl_t_43
          have hht_43 := Lib.hid ht_43
          clear ht_43
          obtain rfl := ret_hid H
          go_wp2_with fail
          go_ret
          exact ⟨A0, c0, rfl, Ot_43.out, HBwcl_40.out, Go.Proofs.Ytkinlkmmelkdnaa.GoK.from_self⟩
        | true =>
          replace H := ite_t H
          replace H := idx_hid H
          obtain ⟨nt_18, yt_18, et_18, lt_18, gt_18, H⟩ := H
          subst et_18
          have nc_387 : nt_18 < s_0.length := by have := of_decide_eq_true ht_15; omega
          obtain ⟨t_18_name, t_18_hue, t_18_width, t_18_dark, t_18_light⟩ := yt_18
          replace H := unShade_hid H
          have hqt_18 := hns_0l0.out
          obtain ⟨qt_18, Qt_18⟩ := own_some Os_0l0.out (by omega)
          subst Qt_18
          obtain ⟨ab_t_18, ao_t_18, zt_18, At_18, z_t_18, ct_18_0, ct_18_1, ct_18_2, ct_18_3, ct_18_4⟩ := Go.Proofs.Ytkinlkmmelkdnaa.OShade.at_ (own_cells Os_0l0.out) (k := nt_18) (by omega)
          obtain rfl := Option.some.inj (gt_18.out.symm.trans z_t_18)
          simp only [Option.some.injEq, Addr.mk.injEq] at At_18
          obtain ⟨rfl, rfl, _⟩ := At_18
          clear z_t_18
          simp only [Nat.zero_add] at ct_18_0 ct_18_1 ct_18_2 ct_18_3 ct_18_4
          have b0t_18 : (0 : Int) ≤ (nt_18 : Int) := by omega
          have b1t_18 : (nt_18 : Int) < ((s_0.length : Nat) : Int) := by omega
          have b2t_18 : ((nt_18 : Int)).toNat = nt_18 := by omega
          clear hqt_18
          obtain ⟨w_v_20, hw_v_20⟩ : ∃ x, wr0.alloc (.cells #[.string t_18_name, .int .i64 t_18_hue, .int .i64 t_18_width, .int .i64 t_18_dark, .int .i64 t_18_light] 74) = x := ⟨_, rfl⟩
          have bw_v_20 : Below wr0.heap.size wr0 w_v_20 := by rw [← hw_v_20]; exact (Below.refl _ _).alloc (Nat.le_refl _) _
          have Dv_20_s_0l0 := Lib.hid (apart_fresh Os_0l0.out)
          have HBw_v_20 := Lib.hid (grown_below HBwr0.out bw_v_20)
          have Ff1_0__388 := cell_below bw_v_20 Ff1_0
          have Ff1_1__389 := cell_below bw_v_20 Ff1_1
          have ct_18_0__390 := cell_below bw_v_20 ct_18_0
          have ct_18_1__391 := cell_below bw_v_20 ct_18_1
          have ct_18_2__392 := cell_below bw_v_20 ct_18_2
          have ct_18_3__393 := cell_below bw_v_20 ct_18_3
          have ct_18_4__394 := cell_below bw_v_20 ct_18_4
          replace Os_0l0 := Lib.hid (own_below Os_0l0.out bw_v_20)
          clear bw_v_20
          have kv_20_0 : w_v_20.cell? ⟨wr0.heap.size, 0, none⟩ = some (.string t_18_name) := by rw [← hw_v_20]; exact box_new _ _ _ 0 _ rfl
          have kv_20_1 : w_v_20.cell? ⟨wr0.heap.size, 1, none⟩ = some (.int .i64 t_18_hue) := by rw [← hw_v_20]; exact box_new _ _ _ 1 _ rfl
          have kv_20_2 : w_v_20.cell? ⟨wr0.heap.size, 2, none⟩ = some (.int .i64 t_18_width) := by rw [← hw_v_20]; exact box_new _ _ _ 2 _ rfl
          have kv_20_3 : w_v_20.cell? ⟨wr0.heap.size, 3, none⟩ = some (.int .i64 t_18_dark) := by rw [← hw_v_20]; exact box_new _ _ _ 3 _ rfl
          have kv_20_4 : w_v_20.cell? ⟨wr0.heap.size, 4, none⟩ = some (.int .i64 t_18_light) := by rw [← hw_v_20]; exact box_new _ _ _ 4 _ rfl
          replace H := bind_hid H
          obtain ⟨t_24, qt_24, H⟩ := H
          go_wp2_with fail
          clear Ff1_0 Ff1_1 ct_18_0 ct_18_1 ct_18_2 ct_18_3 ct_18_4
          go_at_call 106
          refine (Go.Proofs.Ytkinlkmmelkdnaa.GiBestShade1.C ((Go.Proofs.Ytkinlkmmelkdnaa.PShade.Shade.mk t_18_name t_18_hue t_18_width t_18_dark t_18_light)) (hf1_0) (hf1_1) (gf1_0) (gf1_1) _   (Lib.hid Ff1_0__388) (Lib.hid Ff1_1__389) qt_24).mono ?_
          rintro e_t_24 wt_24 ⟨rfl, bt_24⟩
          have HBwt_24 := Lib.hid (grown_below HBw_v_20.out bt_24)
          replace Ff1_0__388 := cell_below bt_24 Ff1_0__388
          replace Ff1_1__389 := cell_below bt_24 Ff1_1__389
          replace ct_18_0__390 := cell_below bt_24 ct_18_0__390
          replace ct_18_1__391 := cell_below bt_24 ct_18_1__391
          replace ct_18_2__392 := cell_below bt_24 ct_18_2__392
          replace ct_18_3__393 := cell_below bt_24 ct_18_3__393
          replace ct_18_4__394 := cell_below bt_24 ct_18_4__394
          replace kv_20_0 := cell_below bt_24 kv_20_0
          replace kv_20_1 := cell_below bt_24 kv_20_1
          replace kv_20_2 := cell_below bt_24 kv_20_2
          replace kv_20_3 := cell_below bt_24 kv_20_3
          replace kv_20_4 := cell_below bt_24 kv_20_4
          replace Os_0l0 := Lib.hid (own_below Os_0l0.out bt_24)
          clear bt_24
          cases t_24 with
          | false =>
            replace H := let_hid H
            obtain ⟨t_25, ht_25, H⟩ := H
            obtain rfl : t_25 = true := ht_25.symm
            replace H := ite_t H
            replace H := idx_hid H
            obtain ⟨nt_29, yt_29, et_29, lt_29, gt_29, H⟩ := H
            subst et_29
            obtain ⟨t_29_name, t_29_hue, t_29_width, t_29_dark, t_29_light⟩ := yt_29
            replace H := unShade_hid H
            have hqt_29 := hns_0l0.out
            obtain ⟨ab_t_29, ao_t_29, zt_29, At_29, z_t_29, ct_29_0, ct_29_1, ct_29_2, ct_29_3, ct_29_4⟩ := Go.Proofs.Ytkinlkmmelkdnaa.OShade.at_ (own_cells Os_0l0.out) (k := nt_29) (by omega)
            obtain rfl := Option.some.inj (gt_29.out.symm.trans z_t_29)
            simp only [Option.some.injEq, Addr.mk.injEq] at At_29
            obtain ⟨rfl, rfl, _⟩ := At_29
            clear z_t_29
            simp only [Nat.zero_add] at ct_29_0 ct_29_1 ct_29_2 ct_29_3 ct_29_4
            have b0t_29 : (0 : Int) ≤ (nt_29 : Int) := by omega
            have b1t_29 : (nt_29 : Int) < ((s_0.length : Nat) : Int) := by omega
            have b2t_29 : ((nt_29 : Int)).toNat = nt_29 := by omega
            clear hqt_29
            replace H := let_hid H
            obtain ⟨l30_30, hl30_30, H⟩ := H
            try simp only [Int.toNat_natCast] at hl30_30
            obtain ⟨wl30_30, hwl30_30⟩ : ∃ x, (((((wt_24).setCell ⟨qt_18, nt_29 * 5, none⟩ (.string t_18_name)).setCell ⟨qt_18, nt_29 * 5 + 1, none⟩ (.int .i64 t_18_hue)).setCell ⟨qt_18, nt_29 * 5 + 2, none⟩ (.int .i64 t_18_width)).setCell ⟨qt_18, nt_29 * 5 + 3, none⟩ (.int .i64 t_18_dark)).setCell ⟨qt_18, nt_29 * 5 + 4, none⟩ (.int .i64 t_18_light) = x := ⟨_, rfl⟩
            have z0l30_30 := Os_0l0.out.frozenAt (nt_29 * 5)
            have z1l30_30 := Os_0l0.out.frozenAt (nt_29 * 5 + 1)
            have z2l30_30 := Os_0l0.out.frozenAt (nt_29 * 5 + 2)
            have z3l30_30 := Os_0l0.out.frozenAt (nt_29 * 5 + 3)
            have z4l30_30 := Os_0l0.out.frozenAt (nt_29 * 5 + 4)
            have Sl30_30 := Lib.hid (own_stores [(nt_29 * 5, .string t_18_name), (nt_29 * 5 + 1, .int .i64 t_18_hue), (nt_29 * 5 + 2, .int .i64 t_18_width), (nt_29 * 5 + 3, .int .i64 t_18_dark), (nt_29 * 5 + 4, .int .i64 t_18_light)] Os_0l0.out)
            have nl30_30 : Hid (l30_30.length = s_0.length) := Lib.hid (by rw [← hl30_30, List.length_set]; exact hns_0l0.out)
            have Pl30_30 : Hid (wl30_30.ownsRow b0 74 5 (.slice (some ⟨qt_18, 0, none⟩) s_0.length c0) s_0.length (Go.Proofs.Ytkinlkmmelkdnaa.PShade.flat l30_30)) := Lib.hid (by have es_ := set_self gt_29.out; have e0_ := flat_set Go.Proofs.Ytkinlkmmelkdnaa.PShade.Shade.cells 5 (fun _ => rfl) s_0l0 (nt_29) 0 (Go.Proofs.Ytkinlkmmelkdnaa.PShade.Shade.mk t_29_name t_29_hue t_29_width t_29_dark t_29_light) (Go.Proofs.Ytkinlkmmelkdnaa.PShade.Shade.mk t_18_name t_29_hue t_29_width t_29_dark t_29_light) (.string t_18_name) lt_29 (by decide) rfl; have e1_ := flat_set Go.Proofs.Ytkinlkmmelkdnaa.PShade.Shade.cells 5 (fun _ => rfl) s_0l0 (nt_29) 1 (Go.Proofs.Ytkinlkmmelkdnaa.PShade.Shade.mk t_18_name t_29_hue t_29_width t_29_dark t_29_light) (Go.Proofs.Ytkinlkmmelkdnaa.PShade.Shade.mk t_18_name t_18_hue t_29_width t_29_dark t_29_light) (.int .i64 t_18_hue) lt_29 (by decide) rfl; have e2_ := flat_set Go.Proofs.Ytkinlkmmelkdnaa.PShade.Shade.cells 5 (fun _ => rfl) s_0l0 (nt_29) 2 (Go.Proofs.Ytkinlkmmelkdnaa.PShade.Shade.mk t_18_name t_18_hue t_29_width t_29_dark t_29_light) (Go.Proofs.Ytkinlkmmelkdnaa.PShade.Shade.mk t_18_name t_18_hue t_18_width t_29_dark t_29_light) (.int .i64 t_18_width) lt_29 (by decide) rfl; have e3_ := flat_set Go.Proofs.Ytkinlkmmelkdnaa.PShade.Shade.cells 5 (fun _ => rfl) s_0l0 (nt_29) 3 (Go.Proofs.Ytkinlkmmelkdnaa.PShade.Shade.mk t_18_name t_18_hue t_18_width t_29_dark t_29_light) (Go.Proofs.Ytkinlkmmelkdnaa.PShade.Shade.mk t_18_name t_18_hue t_18_width t_18_dark t_29_light) (.int .i64 t_18_dark) lt_29 (by decide) rfl; have e4_ := flat_set Go.Proofs.Ytkinlkmmelkdnaa.PShade.Shade.cells 5 (fun _ => rfl) s_0l0 (nt_29) 4 (Go.Proofs.Ytkinlkmmelkdnaa.PShade.Shade.mk t_18_name t_18_hue t_18_width t_18_dark t_29_light) (Go.Proofs.Ytkinlkmmelkdnaa.PShade.Shade.mk t_18_name t_18_hue t_18_width t_18_dark t_18_light) (.int .i64 t_18_light) lt_29 (by decide) rfl; rw [es_] at e0_; have e_ : ([(nt_29 * 5, .string t_18_name), (nt_29 * 5 + 1, .int .i64 t_18_hue), (nt_29 * 5 + 2, .int .i64 t_18_width), (nt_29 * 5 + 3, .int .i64 t_18_dark), (nt_29 * 5 + 4, .int .i64 t_18_light)] : List (Nat × Value)).foldl (fun xs p => xs.set p.1 p.2) (Go.Proofs.Ytkinlkmmelkdnaa.PShade.flat s_0l0) = (Go.Proofs.Ytkinlkmmelkdnaa.PShade.flat l30_30) := (by rw [← hl30_30]; show _ = List.flatMap Go.Proofs.Ytkinlkmmelkdnaa.PShade.Shade.cells _; first | (rw [← e4_, ← e3_, ← e2_, ← e1_, ← e0_]; first | done | rfl) | (rw [← e4_, ← e3_, ← e2_, ← e1_, es_, ← e0_]; first | done | rfl)); rw [← hwl30_30, ← e_]; exact Sl30_30.out.1)
            have Gl30_30 : Hid (wt_24.grownBy wl30_30 (Value.slice (some ⟨qt_18, 0, none⟩) s_0.length c0).ownBlock) := Lib.hid (by rw [← hwl30_30]; exact Sl30_30.out.2)
            have HBwl30_30 := Lib.hid (Aid.grown_tr HBwt_24.out Gl30_30.out)
            have hhl30_30 := Lib.hid hl30_30
            clear hl30_30 Sl30_30
            have Ff1_0__395 := cell_other Ff1_0__388 Gl30_30.out XHgf1_0.out
            have Ff1_1__396 := cell_other Ff1_1__389 Gl30_30.out XHgf1_1.out
            have kv_20_0__397 := cell_other kv_20_0 Gl30_30.out (Apart.symm Dv_20_s_0l0.out)
            have kv_20_1__398 := cell_other kv_20_1 Gl30_30.out (Apart.symm Dv_20_s_0l0.out)
            have kv_20_2__399 := cell_other kv_20_2 Gl30_30.out (Apart.symm Dv_20_s_0l0.out)
            have kv_20_3__400 := cell_other kv_20_3 Gl30_30.out (Apart.symm Dv_20_s_0l0.out)
            have kv_20_4__401 := cell_other kv_20_4 Gl30_30.out (Apart.symm Dv_20_s_0l0.out)
            clear Os_0l0 Gl30_30
            replace H := let_hid H
            obtain ⟨t_32, ht_32, H⟩ := H
            replace H := let_hid H
            obtain ⟨t_35, ht_35, H⟩ := H
            replace H := app_hid H
            go_wp2_with fail
            clear z0l30_30 z1l30_30 z2l30_30 z3l30_30 z4l30_30 Ff1_0__388 Ff1_1__389 ct_18_0__390 ct_18_1__391 ct_18_2__392 ct_18_3__393 ct_18_4__394 kv_20_0 kv_20_1 kv_20_2 kv_20_3 kv_20_4 ct_29_0 ct_29_1 ct_29_2 ct_29_3 ct_29_4
            go_roundg m0
            case measure => omega
            case rel => exact ⟨_, _, _, rfl, rfl, H, HBwl30_30, Ff1_0__395, Ff1_1__396, Pl30_30, Lib.hid (nl30_30.out)⟩
          | true =>
            replace H := let_hid H
            obtain ⟨t_25, ht_25, H⟩ := H
            obtain rfl : t_25 = false := ht_25.symm
            replace H := ite_f H
            replace H := let_hid H
            obtain ⟨t_35, ht_35, H⟩ := H
            replace H := app_hid H
            go_wp2_with fail
            go_roundg m0
            case measure => omega
            case rel => exact ⟨_, _, _, rfl, rfl, H, HBwt_24, Ff1_0__388, Ff1_1__389, Os_0l0, Lib.hid (hns_0l0.out)⟩
  | true =>
    replace H := ite_t H
    obtain rfl := ret_hid H
    go_wp2_with fail
    go_ret
    exact ⟨A0, c0, rfl, M0.out, HBwt_3.out, Go.Proofs.Ytkinlkmmelkdnaa.GoK.from_self⟩
end Go.Proofs.Ytkinlkmmelkdnaa.GxSlicesDeleteFuncLoopExampleG01062ImplShadeLoopExampleG01062ImplShadeiBestShade1

/- More words for plain functions: tuples of five to eight. No condition. -/
namespace Go.Proofs.Ytkinlkmmelkdnaa.GoP
set_option linter.unusedVariables false
open Go.RowKit
def unp5 {α β γ δ ε ρ : Type} (s : α × β × γ × δ × ε) (f : α → β → γ → δ → ε → Option ρ) : Option ρ := f s.1 s.2.1 s.2.2.1 s.2.2.2.1 s.2.2.2.2
theorem unp5_hid {α β γ δ ε ρ : Type} {x0 : α} {x1 : β} {x2 : γ} {x3 : δ} {x4 : ε} {f : α → β → γ → δ → ε → Option ρ} {r : ρ} (H : Hid (unp5 (x0, x1, x2, x3, x4) f = some r)) : Hid (f x0 x1 x2 x3 x4 = some r) := H
def bind5 {α β γ δ ε ρ : Type} (x : Option (α × β × γ × δ × ε)) (f : α → β → γ → δ → ε → Option ρ) : Option ρ := match x with | none => none | some (x0, x1, x2, x3, x4) => f x0 x1 x2 x3 x4
def unp6 {α β γ δ ε ζ ρ : Type} (s : α × β × γ × δ × ε × ζ) (f : α → β → γ → δ → ε → ζ → Option ρ) : Option ρ := f s.1 s.2.1 s.2.2.1 s.2.2.2.1 s.2.2.2.2.1 s.2.2.2.2.2
theorem unp6_hid {α β γ δ ε ζ ρ : Type} {x0 : α} {x1 : β} {x2 : γ} {x3 : δ} {x4 : ε} {x5 : ζ} {f : α → β → γ → δ → ε → ζ → Option ρ} {r : ρ} (H : Hid (unp6 (x0, x1, x2, x3, x4, x5) f = some r)) : Hid (f x0 x1 x2 x3 x4 x5 = some r) := H
def bind6 {α β γ δ ε ζ ρ : Type} (x : Option (α × β × γ × δ × ε × ζ)) (f : α → β → γ → δ → ε → ζ → Option ρ) : Option ρ := match x with | none => none | some (x0, x1, x2, x3, x4, x5) => f x0 x1 x2 x3 x4 x5
def unp7 {α β γ δ ε ζ η ρ : Type} (s : α × β × γ × δ × ε × ζ × η) (f : α → β → γ → δ → ε → ζ → η → Option ρ) : Option ρ := f s.1 s.2.1 s.2.2.1 s.2.2.2.1 s.2.2.2.2.1 s.2.2.2.2.2.1 s.2.2.2.2.2.2
theorem unp7_hid {α β γ δ ε ζ η ρ : Type} {x0 : α} {x1 : β} {x2 : γ} {x3 : δ} {x4 : ε} {x5 : ζ} {x6 : η} {f : α → β → γ → δ → ε → ζ → η → Option ρ} {r : ρ} (H : Hid (unp7 (x0, x1, x2, x3, x4, x5, x6) f = some r)) : Hid (f x0 x1 x2 x3 x4 x5 x6 = some r) := H
def bind7 {α β γ δ ε ζ η ρ : Type} (x : Option (α × β × γ × δ × ε × ζ × η)) (f : α → β → γ → δ → ε → ζ → η → Option ρ) : Option ρ := match x with | none => none | some (x0, x1, x2, x3, x4, x5, x6) => f x0 x1 x2 x3 x4 x5 x6
def unp8 {α β γ δ ε ζ η θ ρ : Type} (s : α × β × γ × δ × ε × ζ × η × θ) (f : α → β → γ → δ → ε → ζ → η → θ → Option ρ) : Option ρ := f s.1 s.2.1 s.2.2.1 s.2.2.2.1 s.2.2.2.2.1 s.2.2.2.2.2.1 s.2.2.2.2.2.2.1 s.2.2.2.2.2.2.2
theorem unp8_hid {α β γ δ ε ζ η θ ρ : Type} {x0 : α} {x1 : β} {x2 : γ} {x3 : δ} {x4 : ε} {x5 : ζ} {x6 : η} {x7 : θ} {f : α → β → γ → δ → ε → ζ → η → θ → Option ρ} {r : ρ} (H : Hid (unp8 (x0, x1, x2, x3, x4, x5, x6, x7) f = some r)) : Hid (f x0 x1 x2 x3 x4 x5 x6 x7 = some r) := H
def bind8 {α β γ δ ε ζ η θ ρ : Type} (x : Option (α × β × γ × δ × ε × ζ × η × θ)) (f : α → β → γ → δ → ε → ζ → η → θ → Option ρ) : Option ρ := match x with | none => none | some (x0, x1, x2, x3, x4, x5, x6, x7) => f x0 x1 x2 x3 x4 x5 x6 x7
end Go.Proofs.Ytkinlkmmelkdnaa.GoP

/- cmp.isNaN[int] as a plain function, and the contract of the program's: where the plain one has an answer, the program has it. Conditions: slices read as lists. -/
namespace Go.Proofs.Ytkinlkmmelkdnaa.GxCmpIsNaNInt
set_option linter.unusedVariables false
set_option linter.unusedSimpArgs false
open Go.RowKit
open Go.Proofs.Ytkinlkmmelkdnaa.Rowed Go.Proofs.Ytkinlkmmelkdnaa.Turn Go.Proofs.Ytkinlkmmelkdnaa.Aid Go.Proofs.Ytkinlkmmelkdnaa.GoP Go.Proofs.Ytkinlkmmelkdnaa.GoM

def P (x : Int) : Option (Bool) :=
  some false

set_option maxRecDepth 100000 in
set_option maxHeartbeats 2000000 in
theorem C (x : Int)   (w : World)   {r : Bool} (H : Hid (P x = some r)) :
    Calls Try.prog 137 #[.int .i64 x] w (Gives (.bool r) w) := by
  have HB := Lib.hid (Below.refl w.heap.size w)
  unfold P at H
  go_enter Try.func137, Try.ntmps137
  obtain rfl := ret_hid H
  go_wp2_with fail
  go_ret
  exact ⟨rfl, HB.out⟩

set_option maxRecDepth 100000 in
set_option maxHeartbeats 2000000 in
theorem C0 (x : Int)   (w : World)   {r : Bool} (H : Hid (P x = some r)) :
    Calls Try.prog 137 #[.int .i64 x] w (fun e w'' => e = .returned (.bool r) ∧ w'' = w) := by
  have HB := Lib.hid (Below.refl w.heap.size w)
  unfold P at H
  go_enter Try.func137, Try.ntmps137
  obtain rfl := ret_hid H
  go_wp2_with fail
  go_ret
  exact ⟨rfl, rfl⟩
end Go.Proofs.Ytkinlkmmelkdnaa.GxCmpIsNaNInt

/- cmp.Compare[int] as a plain function, and the contract of the program's: where the plain one has an answer, the program has it. Conditions: slices read as lists. -/
namespace Go.Proofs.Ytkinlkmmelkdnaa.GxCmpCompareInt
set_option linter.unusedVariables false
set_option linter.unusedSimpArgs false
open Go.RowKit
open Go.Proofs.Ytkinlkmmelkdnaa.Rowed Go.Proofs.Ytkinlkmmelkdnaa.Turn Go.Proofs.Ytkinlkmmelkdnaa.Aid Go.Proofs.Ytkinlkmmelkdnaa.GoP Go.Proofs.Ytkinlkmmelkdnaa.GoM

def P (x : Int) (y : Int) : Option (Int) :=
  Option.bind (Go.Proofs.Ytkinlkmmelkdnaa.GxCmpIsNaNInt.P x) fun (t_2 : Bool) =>
  Option.bind (Go.Proofs.Ytkinlkmmelkdnaa.GxCmpIsNaNInt.P y) fun (t_5 : Bool) =>
  iteK t_2
  (iteK t_5
  (some 0)
  (some (-1)))
  (iteK t_5
  (some 1)
  (letK (decide (x < y)) fun (t_15 : Bool) =>
  iteK t_15
  (some (-1))
  (letK (decide (y < x)) fun (t_19 : Bool) =>
  iteK t_19
  (some 1)
  (some 0))))

set_option maxRecDepth 100000 in
set_option maxHeartbeats 2000000 in
theorem C (x : Int) (y : Int)   (w : World)   {r : Int} (H : Hid (P x y = some r)) :
    Calls Try.prog 111 #[.int .i64 x, .int .i64 y] w (Gives (.int .i64 r) w) := by
  have HB := Lib.hid (Below.refl w.heap.size w)
  unfold P at H
  go_enter Try.func111, Try.ntmps111
  replace H := bind_hid H
  obtain ⟨t_2, qt_2, H⟩ := H
  go_wp2_with fail
  go_at_call 137
  refine (Go.Proofs.Ytkinlkmmelkdnaa.GxCmpIsNaNInt.C (x)  _    qt_2).mono ?_
  rintro e_t_2 wt_2 ⟨rfl, bt_2⟩
  have HBwt_2 := Lib.hid (Below.step HB.out bt_2)
  clear bt_2
  replace H := bind_hid H
  obtain ⟨t_5, qt_5, H⟩ := H
  go_wp2_with fail
  go_at_call 137
  refine (Go.Proofs.Ytkinlkmmelkdnaa.GxCmpIsNaNInt.C (y)  _    qt_5).mono ?_
  rintro e_t_5 wt_5 ⟨rfl, bt_5⟩
  have HBwt_5 := Lib.hid (Below.step HBwt_2.out bt_5)
  clear bt_5
  cases t_2 with
  | false =>
    replace H := ite_f H
    cases t_5 with
    | false =>
      replace H := ite_f H
      replace H := let_hid H
      obtain ⟨t_15, ht_15, H⟩ := H
      cases t_15 with
      | false =>
        replace H := ite_f H
        replace H := let_hid H
        obtain ⟨t_19, ht_19, H⟩ := H
        cases t_19 with
        | false =>
          replace H := ite_f H
          obtain rfl := ret_hid H
          go_wp2_with fail
          go_ret
          exact ⟨rfl, HBwt_5.out⟩
        | true =>
          replace H := ite_t H
          obtain rfl := ret_hid H
          go_wp2_with fail
          go_ret
          exact ⟨rfl, HBwt_5.out⟩
      | true =>
        replace H := ite_t H
        obtain rfl := ret_hid H
        go_wp2_with fail
        go_ret
        exact ⟨rfl, HBwt_5.out⟩
    | true =>
      replace H := ite_t H
      obtain rfl := ret_hid H
      go_wp2_with fail
      go_ret
      exact ⟨rfl, HBwt_5.out⟩
  | true =>
    replace H := ite_t H
    cases t_5 with
    | false =>
      replace H := ite_f H
      obtain rfl := ret_hid H
      go_wp2_with fail
      go_ret
      exact ⟨rfl, HBwt_5.out⟩
    | true =>
      replace H := ite_t H
      obtain rfl := ret_hid H
      go_wp2_with fail
      go_ret
      exact ⟨rfl, HBwt_5.out⟩
end Go.Proofs.Ytkinlkmmelkdnaa.GxCmpCompareInt

/- cmp.Or[int] as a plain function, and the contract of the program's: where the plain one has an answer, the program has it. Conditions: slices read as lists. -/
namespace Go.Proofs.Ytkinlkmmelkdnaa.GxCmpOrInt
set_option linter.unusedVariables false
set_option linter.unusedSimpArgs false
open Go.RowKit
open Go.Proofs.Ytkinlkmmelkdnaa.Rowed Go.Proofs.Ytkinlkmmelkdnaa.Turn Go.Proofs.Ytkinlkmmelkdnaa.Aid Go.Proofs.Ytkinlkmmelkdnaa.GoP Go.Proofs.Ytkinlkmmelkdnaa.GoM

def l0 (vals : (List Int)) (k0 : Nat) (s : Unit) (nx0 bk0 : Unit → Option (Int)) : Option (Int) :=
  
  Option.bind (idx vals (k0 : Int)) fun (yt_6 : Int) =>
  letK (yt_6 != 0) fun (t_11 : Bool) =>
  iteK t_11
  (some yt_6)
  (appK nx0 ())

def e0  (s : Unit) : Option (Int) :=
  
  some 0

def P (vals : (List Int)) : Option (Int) :=
  cntK (l0 vals) (vals.length) 0 () (e0 )

set_option maxRecDepth 100000 in
set_option maxHeartbeats 2000000 in
theorem C (vals : (List Int)) (A0 : Option Addr) (c0 : Nat)  (w : World) (M0 : Hid (Cells w 1 A0 vals.length (Go.Proofs.Ytkinlkmmelkdnaa.HelpInt.iv vals))) (N0 : Hid (vals.length ≤ 9223372036854775807))  {r : Int} (H : Hid (P vals = some r)) :
    Calls Try.prog 110 #[.slice A0 vals.length c0] w (Gives (.int .i64 r) w) := by
  have HB := Lib.hid (Below.refl w.heap.size w)
  unfold P at H
  have N0o := N0.out
  go_enter Try.func110, Try.ntmps110
  go_wp2_with fail
  go_loopg [8] (vals.length) (fun m_ v8_ wr => ∃ (k0 : Nat) , k0 + m_ = vals.length ∧ v8_ = .int .i64 (k0 : Int) ∧ Hid (cntK (l0 vals) m_ k0 () (e0 ) = some r) ∧ Hid (Below w.heap.size w wr))
  case atStart => exact ⟨0, by omega, rfl, H, HB⟩
  case round =>
    obtain ⟨k0, hkm0, rfl, H, HBwr0⟩ := hrel
    rename World => wr0
    cases gk with
    | zero =>
      obtain rfl : k0 = vals.length := by omega
      have hc0 : decide (((vals.length : Nat) : Int) < ((vals.length : Nat) : Int)) = false := by simp
      replace H := cnt_zero H
      unfold e0 at H
      obtain rfl := ret_hid H
      go_wp2_with fail
      go_ret
      exact ⟨rfl, HBwr0.out⟩
    | succ m0 =>
      have hlt0 : k0 < vals.length := by omega
      have hc0 : decide ((k0 : Int) < ((vals.length : Nat) : Int)) = true := by simp; omega
      replace H := cnt_succ H
      unfold l0 at H
      replace H := idx_hid H
      obtain ⟨nt_6, yt_6, et_6, lt_6, gt_6, H⟩ := H
      obtain rfl : k0 = nt_6 := by omega
      clear et_6
      obtain ⟨ab_t_6, ao_t_6, zt_6, At_6, z_t_6, ct_6_0⟩ := Go.Proofs.Ytkinlkmmelkdnaa.HelpInt.Ints.at_ M0.out lt_6
      obtain rfl := Option.some.inj (gt_6.out.symm.trans z_t_6)
      subst At_6
      have ltt_6 := cell_lt ct_6_0
      replace ct_6_0 := cell_below HBwr0.out ct_6_0
      clear z_t_6
      have b0t_6 : (0 : Int) ≤ (k0 : Int) := by omega
      have b1t_6 : (k0 : Int) < ((vals.length : Nat) : Int) := by omega
      have b2t_6 : ((k0 : Int)).toNat = k0 := by omega
      replace H := let_hid H
      obtain ⟨t_11, ht_11, H⟩ := H
      cases t_11 with
      | false =>
        replace H := ite_f H
        replace H := app_hid H
        go_wp2_with fail
        go_roundg m0
        case measure => omega
        case rel => exact ⟨k0 + 1, by omega, by go_num, H, HBwr0⟩
      | true =>
        replace H := ite_t H
        obtain rfl := ret_hid H
        go_wp2_with fail
        go_ret
        exact ⟨rfl, HBwr0.out⟩
end Go.Proofs.Ytkinlkmmelkdnaa.GxCmpOrInt

/- loop.example/g01062/impl.BestShade$2 as a plain function, and the contract of the program's: where the plain one has an answer, the program has it. Conditions: slices read as lists. -/
namespace Go.Proofs.Ytkinlkmmelkdnaa.GiBestShade2
set_option linter.unusedVariables false
set_option linter.unusedSimpArgs false
open Go.RowKit
open Go.Proofs.Ytkinlkmmelkdnaa.Rowed Go.Proofs.Ytkinlkmmelkdnaa.Turn Go.Proofs.Ytkinlkmmelkdnaa.Aid Go.Proofs.Ytkinlkmmelkdnaa.GoP Go.Proofs.Ytkinlkmmelkdnaa.GoM

def P (x : Go.Proofs.Ytkinlkmmelkdnaa.PShade.Shade) (y : Go.Proofs.Ytkinlkmmelkdnaa.PShade.Shade) (hq0 : Int) : Option (Int) :=
  unShade x fun (x_name : ByteArray) (x_hue : Int) (x_width : Int) (x_dark : Int) (x_light : Int) =>
  unShade y fun (y_name : ByteArray) (y_hue : Int) (y_width : Int) (y_dark : Int) (y_light : Int) =>
  Option.bind (Go.Proofs.Ytkinlkmmelkdnaa.GiLoHueDistance.P x_hue hq0) fun (t_6 : Int) =>
  Option.bind (Go.Proofs.Ytkinlkmmelkdnaa.GiLoHueDistance.P y_hue hq0) fun (t_10 : Int) =>
  Option.bind (Go.Proofs.Ytkinlkmmelkdnaa.GxCmpCompareInt.P t_6 t_10) fun (t_11 : Int) =>
  Option.bind (Go.Proofs.Ytkinlkmmelkdnaa.GxCmpCompareInt.P x_width y_width) fun (t_16 : Int) =>
  letK ([t_11, t_16]) fun (t_17 : (List Int)) =>
  Option.bind (Go.Proofs.Ytkinlkmmelkdnaa.GxCmpOrInt.P t_17) fun (t_18 : Int) =>
  some t_18

set_option maxRecDepth 100000 in
set_option maxHeartbeats 2000000 in
theorem C (x : Go.Proofs.Ytkinlkmmelkdnaa.PShade.Shade) (y : Go.Proofs.Ytkinlkmmelkdnaa.PShade.Shade) (hq0 : Int)  (gq0 : Nat) (w : World)  (Fq0h : Hid (w.cell? ⟨gq0, 0, none⟩ = some (.int .i64 hq0))) {r : Int} (H : Hid (P x y hq0 = some r)) :
    Calls Try.prog 109 #[x.val, y.val, .pointer (some ⟨gq0, 0, none⟩)] w (Gives (.int .i64 r) w) := by
  have HB := Lib.hid (Below.refl w.heap.size w)
  unfold P at H
  obtain ⟨x_name, x_hue, x_width, x_dark, x_light⟩ := x
  replace H := unShade_hid H
  obtain ⟨y_name, y_hue, y_width, y_dark, y_light⟩ := y
  replace H := unShade_hid H
  unfold Go.Proofs.Ytkinlkmmelkdnaa.PShade.Shade.val
  have Fq0 := Fq0h.out
  go_enter Try.func109, Try.ntmps109
  obtain ⟨w_x_0, hw_x_0⟩ : ∃ x, w.alloc (.cells #[.string x_name, .int .i64 x_hue, .int .i64 x_width, .int .i64 x_dark, .int .i64 x_light] 74) = x := ⟨_, rfl⟩
  have bw_x_0 : Below w.heap.size w w_x_0 := by rw [← hw_x_0]; exact (Below.refl _ _).alloc (Nat.le_refl _) _
  have HBw_x_0 := Lib.hid (Below.step HB.out bw_x_0)
  have Fq0__402 := cell_below bw_x_0 Fq0
  clear bw_x_0
  have kx_0_0 : w_x_0.cell? ⟨w.heap.size, 0, none⟩ = some (.string x_name) := by rw [← hw_x_0]; exact box_new _ _ _ 0 _ rfl
  have kx_0_1 : w_x_0.cell? ⟨w.heap.size, 1, none⟩ = some (.int .i64 x_hue) := by rw [← hw_x_0]; exact box_new _ _ _ 1 _ rfl
  have kx_0_2 : w_x_0.cell? ⟨w.heap.size, 2, none⟩ = some (.int .i64 x_width) := by rw [← hw_x_0]; exact box_new _ _ _ 2 _ rfl
  have kx_0_3 : w_x_0.cell? ⟨w.heap.size, 3, none⟩ = some (.int .i64 x_dark) := by rw [← hw_x_0]; exact box_new _ _ _ 3 _ rfl
  have kx_0_4 : w_x_0.cell? ⟨w.heap.size, 4, none⟩ = some (.int .i64 x_light) := by rw [← hw_x_0]; exact box_new _ _ _ 4 _ rfl
  obtain ⟨w_y_1, hw_y_1⟩ : ∃ x, w_x_0.alloc (.cells #[.string y_name, .int .i64 y_hue, .int .i64 y_width, .int .i64 y_dark, .int .i64 y_light] 74) = x := ⟨_, rfl⟩
  have bw_y_1 : Below w_x_0.heap.size w_x_0 w_y_1 := by rw [← hw_y_1]; exact (Below.refl _ _).alloc (Nat.le_refl _) _
  have HBw_y_1 := Lib.hid (Below.step HBw_x_0.out bw_y_1)
  have Fq0__403 := cell_below bw_y_1 Fq0__402
  have kx_0_0__404 := cell_below bw_y_1 kx_0_0
  have kx_0_1__405 := cell_below bw_y_1 kx_0_1
  have kx_0_2__406 := cell_below bw_y_1 kx_0_2
  have kx_0_3__407 := cell_below bw_y_1 kx_0_3
  have kx_0_4__408 := cell_below bw_y_1 kx_0_4
  clear bw_y_1
  have ky_1_0 : w_y_1.cell? ⟨w_x_0.heap.size, 0, none⟩ = some (.string y_name) := by rw [← hw_y_1]; exact box_new _ _ _ 0 _ rfl
  have ky_1_1 : w_y_1.cell? ⟨w_x_0.heap.size, 1, none⟩ = some (.int .i64 y_hue) := by rw [← hw_y_1]; exact box_new _ _ _ 1 _ rfl
  have ky_1_2 : w_y_1.cell? ⟨w_x_0.heap.size, 2, none⟩ = some (.int .i64 y_width) := by rw [← hw_y_1]; exact box_new _ _ _ 2 _ rfl
  have ky_1_3 : w_y_1.cell? ⟨w_x_0.heap.size, 3, none⟩ = some (.int .i64 y_dark) := by rw [← hw_y_1]; exact box_new _ _ _ 3 _ rfl
  have ky_1_4 : w_y_1.cell? ⟨w_x_0.heap.size, 4, none⟩ = some (.int .i64 y_light) := by rw [← hw_y_1]; exact box_new _ _ _ 4 _ rfl
  go_wp2_with fail
  clear Fq0 Fq0__402 kx_0_0 kx_0_1 kx_0_2 kx_0_3 kx_0_4
  have bd1 : Below w_y_1.heap.size w_y_1 w_y_1.drew := (Below.refl _ _).drew
  have HBw_y_1.drew := Lib.hid (Below.step HBw_y_1.out bd1)
  replace Fq0__403 := cell_below bd1 Fq0__403
  replace kx_0_0__404 := cell_below bd1 kx_0_0__404
  replace kx_0_1__405 := cell_below bd1 kx_0_1__405
  replace kx_0_2__406 := cell_below bd1 kx_0_2__406
  replace kx_0_3__407 := cell_below bd1 kx_0_3__407
  replace kx_0_4__408 := cell_below bd1 kx_0_4__408
  replace ky_1_0 := cell_below bd1 ky_1_0
  replace ky_1_1 := cell_below bd1 ky_1_1
  replace ky_1_2 := cell_below bd1 ky_1_2
  replace ky_1_3 := cell_below bd1 ky_1_3
  replace ky_1_4 := cell_below bd1 ky_1_4
  clear bd1
  replace H := bind_hid H
  obtain ⟨t_6, qt_6, H⟩ := H
  replace H := bind_hid H
  obtain ⟨t_10, qt_10, H⟩ := H
  replace H := bind_hid H
  obtain ⟨t_11, qt_11, H⟩ := H
  replace H := bind_hid H
  obtain ⟨t_16, qt_16, H⟩ := H
  replace H := let_hid H
  obtain ⟨t_17, ht_17, H⟩ := H
  replace H := bind_hid H
  obtain ⟨t_18, qt_18, H⟩ := H
  go_region_held3 (fun w' => w'.cell? ⟨gq0, 0, none⟩ = some (.int .i64 hq0) ∧ w'.cell? ⟨w.heap.size, 0, none⟩ = some (.string x_name) ∧ w'.cell? ⟨w.heap.size, 1, none⟩ = some (.int .i64 x_hue) ∧ w'.cell? ⟨w.heap.size, 2, none⟩ = some (.int .i64 x_width) ∧ w'.cell? ⟨w.heap.size, 3, none⟩ = some (.int .i64 x_dark) ∧ w'.cell? ⟨w.heap.size, 4, none⟩ = some (.int .i64 x_light) ∧ w'.cell? ⟨w_x_0.heap.size, 0, none⟩ = some (.string y_name) ∧ w'.cell? ⟨w_x_0.heap.size, 1, none⟩ = some (.int .i64 y_hue) ∧ w'.cell? ⟨w_x_0.heap.size, 2, none⟩ = some (.int .i64 y_width) ∧ w'.cell? ⟨w_x_0.heap.size, 3, none⟩ = some (.int .i64 y_dark) ∧ w'.cell? ⟨w_x_0.heap.size, 4, none⟩ = some (.int .i64 y_light)) (first | exact ⟨Fq0__403, kx_0_0__404, kx_0_1__405, kx_0_2__406, kx_0_3__407, kx_0_4__408, ky_1_0, ky_1_1, ky_1_2, ky_1_3, ky_1_4⟩ | exact ⟨Fq0__409, kx_0_0__410, kx_0_1__411, kx_0_2__412, kx_0_3__413, kx_0_4__414, ky_1_0__415, ky_1_1__416, ky_1_2__417, ky_1_3__418, ky_1_4__419⟩)
      (first
        | (go_at_call 112
           refine (Go.Proofs.Ytkinlkmmelkdnaa.GiLoHueDistance.C (x_hue) (hq0)  _    qt_6).mono ?_
           rintro e_t_6 wt_6 ⟨rfl, bt_6⟩
           have HBwt_6 := Lib.hid (Below.step HBw_y_1.drew.out bt_6)
           replace Fq0__403 := cell_below bt_6 Fq0__403
           replace kx_0_0__404 := cell_below bt_6 kx_0_0__404
           replace kx_0_1__405 := cell_below bt_6 kx_0_1__405
           replace kx_0_2__406 := cell_below bt_6 kx_0_2__406
           replace kx_0_3__407 := cell_below bt_6 kx_0_3__407
           replace kx_0_4__408 := cell_below bt_6 kx_0_4__408
           replace ky_1_0 := cell_below bt_6 ky_1_0
           replace ky_1_1 := cell_below bt_6 ky_1_1
           replace ky_1_2 := cell_below bt_6 ky_1_2
           replace ky_1_3 := cell_below bt_6 ky_1_3
           replace ky_1_4 := cell_below bt_6 ky_1_4
           clear bt_6
           clear qt_6)
        | (go_at_call 112
           refine (Go.Proofs.Ytkinlkmmelkdnaa.GiLoHueDistance.C (y_hue) (hq0)  _    qt_10).mono ?_
           rintro e_t_10 wt_10 ⟨rfl, bt_10⟩
           have HBwt_10 := Lib.hid (Below.step HBwt_6.out bt_10)
           replace Fq0__403 := cell_below bt_10 Fq0__403
           replace kx_0_0__404 := cell_below bt_10 kx_0_0__404
           replace kx_0_1__405 := cell_below bt_10 kx_0_1__405
           replace kx_0_2__406 := cell_below bt_10 kx_0_2__406
           replace kx_0_3__407 := cell_below bt_10 kx_0_3__407
           replace kx_0_4__408 := cell_below bt_10 kx_0_4__408
           replace ky_1_0 := cell_below bt_10 ky_1_0
           replace ky_1_1 := cell_below bt_10 ky_1_1
           replace ky_1_2 := cell_below bt_10 ky_1_2
           replace ky_1_3 := cell_below bt_10 ky_1_3
           replace ky_1_4 := cell_below bt_10 ky_1_4
           clear bt_10
           clear qt_10)
        | (go_at_call 111
           refine (Go.Proofs.Ytkinlkmmelkdnaa.GxCmpCompareInt.C (t_6) (t_10)  _    qt_11).mono ?_
           rintro e_t_11 wt_11 ⟨rfl, bt_11⟩
           have HBwt_11 := Lib.hid (Below.step HBwt_10.out bt_11)
           replace Fq0__403 := cell_below bt_11 Fq0__403
           replace kx_0_0__404 := cell_below bt_11 kx_0_0__404
           replace kx_0_1__405 := cell_below bt_11 kx_0_1__405
           replace kx_0_2__406 := cell_below bt_11 kx_0_2__406
           replace kx_0_3__407 := cell_below bt_11 kx_0_3__407
           replace kx_0_4__408 := cell_below bt_11 kx_0_4__408
           replace ky_1_0 := cell_below bt_11 ky_1_0
           replace ky_1_1 := cell_below bt_11 ky_1_1
           replace ky_1_2 := cell_below bt_11 ky_1_2
           replace ky_1_3 := cell_below bt_11 ky_1_3
           replace ky_1_4 := cell_below bt_11 ky_1_4
           clear bt_11
           clear qt_11)
        | (go_at_call 111
           refine (Go.Proofs.Ytkinlkmmelkdnaa.GxCmpCompareInt.C (x_width) (y_width)  _    qt_16).mono ?_
           rintro e_t_16 wt_16 ⟨rfl, bt_16⟩
           have HBwt_16 := Lib.hid (Below.step HBwt_11.out bt_16)
           replace Fq0__403 := cell_below bt_16 Fq0__403
           replace kx_0_0__404 := cell_below bt_16 kx_0_0__404
           replace kx_0_1__405 := cell_below bt_16 kx_0_1__405
           replace kx_0_2__406 := cell_below bt_16 kx_0_2__406
           replace kx_0_3__407 := cell_below bt_16 kx_0_3__407
           replace kx_0_4__408 := cell_below bt_16 kx_0_4__408
           replace ky_1_0 := cell_below bt_16 ky_1_0
           replace ky_1_1 := cell_below bt_16 ky_1_1
           replace ky_1_2 := cell_below bt_16 ky_1_2
           replace ky_1_3 := cell_below bt_16 ky_1_3
           replace ky_1_4 := cell_below bt_16 ky_1_4
           clear bt_16
           clear qt_16
           obtain ⟨w_t_17, hw_t_17⟩ : ∃ x, wt_16.alloc (.cells #[.int .i64 t_11, .int .i64 t_16] 3) = x := ⟨_, rfl⟩
           have bw_t_17 : Below wt_16.heap.size wt_16 w_t_17 := by rw [← hw_t_17]; exact (Below.refl _ _).alloc (Nat.le_refl _) _
           have hs_t_17 := HBwt_16.out.size
           have nt_17 : t_17.length = 2 := by rw [← ht_17]; rfl
           have Ot_17 : Hid (w_t_17.ownsRow w.heap.size 3 1 (.slice (some ⟨wt_16.heap.size, 0, none⟩) 2 2) 2 (Go.Proofs.Ytkinlkmmelkdnaa.HelpInt.iv t_17)) := by
             rw [← hw_t_17, ← ht_17]
             have e_ : ([.int .i64 t_11, .int .i64 t_16] : List Value) = (Go.Proofs.Ytkinlkmmelkdnaa.HelpInt.iv ([t_11, t_16] : List Int)) := rfl
             exact Lib.hid (own_laid (n := 2) hs_t_17 e_ rfl (by unfold maxLen; omega))
           clear hs_t_17
           have hht_17 := Lib.hid ht_17
           clear ht_17
           replace nt_17 := Lib.hid nt_17
           have Dt_17_x_0 := Lib.hid (apart_box kx_0_0__404)
           have Dt_17_y_1 := Lib.hid (apart_box ky_1_0)
           have HBw_t_17 := Lib.hid (Below.step HBwt_16.out bw_t_17)
           have Fq0__409 := cell_below bw_t_17 Fq0__403
           have kx_0_0__410 := cell_below bw_t_17 kx_0_0__404
           have kx_0_1__411 := cell_below bw_t_17 kx_0_1__405
           have kx_0_2__412 := cell_below bw_t_17 kx_0_2__406
           have kx_0_3__413 := cell_below bw_t_17 kx_0_3__407
           have kx_0_4__414 := cell_below bw_t_17 kx_0_4__408
           have ky_1_0__415 := cell_below bw_t_17 ky_1_0
           have ky_1_1__416 := cell_below bw_t_17 ky_1_1
           have ky_1_2__417 := cell_below bw_t_17 ky_1_2
           have ky_1_3__418 := cell_below bw_t_17 ky_1_3
           have ky_1_4__419 := cell_below bw_t_17 ky_1_4
           clear bw_t_17)
        | (have hc0_ := nt_17.out
           have Oct_18_1 := Lib.hid (own_len hc0_ Ot_17.out)
           have con_ := Go.Proofs.Ytkinlkmmelkdnaa.GxCmpOrInt.C (t_17) (some ⟨wt_16.heap.size, 0, none⟩) 2 _   (Lib.hid (own_cells Oct_18_1.out)) (Lib.hid (own_max Oct_18_1.out)) qt_18
           rw [hc0_] at con_
           clear hc0_ Oct_18_1
           go_at_call 110
           refine con_.mono ?_
           rintro e_t_18 wt_18 ⟨rfl, bt_18⟩
           have HBwt_18 := Lib.hid (Below.step HBw_t_17.out bt_18)
           replace Fq0__409 := cell_below bt_18 Fq0__409
           replace kx_0_0__410 := cell_below bt_18 kx_0_0__410
           replace kx_0_1__411 := cell_below bt_18 kx_0_1__411
           replace kx_0_2__412 := cell_below bt_18 kx_0_2__412
           replace kx_0_3__413 := cell_below bt_18 kx_0_3__413
           replace kx_0_4__414 := cell_below bt_18 kx_0_4__414
           replace ky_1_0__415 := cell_below bt_18 ky_1_0__415
           replace ky_1_1__416 := cell_below bt_18 ky_1_1__416
           replace ky_1_2__417 := cell_below bt_18 ky_1_2__417
           replace ky_1_3__418 := cell_below bt_18 ky_1_3__418
           replace ky_1_4__419 := cell_below bt_18 ky_1_4__419
           replace Ot_17 := Lib.hid (own_below Ot_17.out bt_18)
           clear bt_18
           clear qt_18))
  try clear Fq0__403
  try clear kx_0_0__404
  try clear kx_0_1__405
  try clear kx_0_2__406
  try clear kx_0_3__407
  try clear kx_0_4__408
  try clear ky_1_0
  try clear ky_1_1
  try clear ky_1_2
  try clear ky_1_3
  try clear ky_1_4
  obtain rfl := ret_hid H
  go_wp2_with fail
  go_ret
  exact ⟨rfl, HBwt_18.out⟩
end Go.Proofs.Ytkinlkmmelkdnaa.GiBestShade2

/- slices.MinFunc[[]loop.example/g01062/impl.Shade,loop.example/g01062/impl.Shade] as a plain function, and the contract of the program's: where the plain one has an answer, the program has it. Conditions: slices read as lists. -/
namespace Go.Proofs.Ytkinlkmmelkdnaa.GxSlicesMinFuncLoopExampleG01062ImplShadeLoopExampleG01062ImplShadeiBestShade2
set_option linter.unusedVariables false
set_option linter.unusedSimpArgs false
open Go.RowKit
open Go.Proofs.Ytkinlkmmelkdnaa.Rowed Go.Proofs.Ytkinlkmmelkdnaa.Turn Go.Proofs.Ytkinlkmmelkdnaa.Aid Go.Proofs.Ytkinlkmmelkdnaa.GoP Go.Proofs.Ytkinlkmmelkdnaa.GoM

def l0 (x : (List Go.Proofs.Ytkinlkmmelkdnaa.PShade.Shade)) (hf1_0 : Int) (s : Int × ByteArray × Int × Int × Int × Int) (nx0 bk0 : Int × ByteArray × Int × Int × Int × Int → Option (Go.Proofs.Ytkinlkmmelkdnaa.PShade.Shade)) : Option (Go.Proofs.Ytkinlkmmelkdnaa.PShade.Shade) :=
  unp6 s fun i_6l0 m_9_c0l0 m_9_c1l0 m_9_c2l0 m_9_c3l0 m_9_c4l0 =>
  letK (decide (i_6l0 < (x.length : Int))) fun (t_15 : Bool) =>
  iteK t_15
  (Option.bind (idx x i_6l0) fun (yt_19 : Go.Proofs.Ytkinlkmmelkdnaa.PShade.Shade) =>
  unShade yt_19 fun (t_19_name : ByteArray) (t_19_hue : Int) (t_19_width : Int) (t_19_dark : Int) (t_19_light : Int) =>
  Option.bind (Go.Proofs.Ytkinlkmmelkdnaa.GiBestShade2.P (Go.Proofs.Ytkinlkmmelkdnaa.PShade.Shade.mk t_19_name t_19_hue t_19_width t_19_dark t_19_light) (Go.Proofs.Ytkinlkmmelkdnaa.PShade.Shade.mk m_9_c0l0 m_9_c1l0 m_9_c2l0 m_9_c3l0 m_9_c4l0) hf1_0) fun (t_22 : Int) =>
  letK (decide (t_22 < 0)) fun (t_23 : Bool) =>
  iteK t_23
  (Option.bind (idx x i_6l0) fun (yt_26 : Go.Proofs.Ytkinlkmmelkdnaa.PShade.Shade) =>
  unShade yt_26 fun (t_26_name : ByteArray) (t_26_hue : Int) (t_26_width : Int) (t_26_dark : Int) (t_26_light : Int) =>
  letK (IntKind.i64.wrap (i_6l0 + 1)) fun (t_30 : Int) =>
  appK nx0 (t_30, t_26_name, t_26_hue, t_26_width, t_26_dark, t_26_light))
  (letK (IntKind.i64.wrap (i_6l0 + 1)) fun (t_30 : Int) =>
  appK nx0 (t_30, m_9_c0l0, m_9_c1l0, m_9_c2l0, m_9_c3l0, m_9_c4l0)))
  (appK bk0 (i_6l0, m_9_c0l0, m_9_c1l0, m_9_c2l0, m_9_c3l0, m_9_c4l0))

def e0  (s : Int × ByteArray × Int × Int × Int × Int) : Option (Go.Proofs.Ytkinlkmmelkdnaa.PShade.Shade) :=
  unp6 s fun i_6l0 m_9_c0l0 m_9_c1l0 m_9_c2l0 m_9_c3l0 m_9_c4l0 =>
  some (Go.Proofs.Ytkinlkmmelkdnaa.PShade.Shade.mk m_9_c0l0 m_9_c1l0 m_9_c2l0 m_9_c3l0 m_9_c4l0)

def j0 (x : (List Go.Proofs.Ytkinlkmmelkdnaa.PShade.Shade)) (hf1_0 : Int) (fuel : Nat) (s : Unit) : Option (Go.Proofs.Ytkinlkmmelkdnaa.PShade.Shade) :=
  Option.bind (idx x 0) fun (yt_7 : Go.Proofs.Ytkinlkmmelkdnaa.PShade.Shade) =>
  unShade yt_7 fun (t_7_name : ByteArray) (t_7_hue : Int) (t_7_width : Int) (t_7_dark : Int) (t_7_light : Int) =>
  loopK (l0 x hf1_0) fuel (1, t_7_name, t_7_hue, t_7_width, t_7_dark, t_7_light) (e0 )

def P (fuel : Nat) (x : (List Go.Proofs.Ytkinlkmmelkdnaa.PShade.Shade)) (hf1_0 : Int) : Option (Go.Proofs.Ytkinlkmmelkdnaa.PShade.Shade) :=
  letK (decide ((x.length : Int) < 1)) fun (t_3 : Bool) =>
  iteK t_3
  (none)
  (j0 x hf1_0 fuel ())

set_option maxRecDepth 100000 in
set_option maxHeartbeats 2000000 in
theorem C (fuel : Nat) (x : (List Go.Proofs.Ytkinlkmmelkdnaa.PShade.Shade)) (hf1_0 : Int) (A0 : Option Addr) (c0 : Nat) (gf1_0 : Nat) (w : World) (M0 : Hid (Cells w 5 A0 x.length (Go.Proofs.Ytkinlkmmelkdnaa.PShade.flat x))) (N0 : Hid (x.length ≤ 9223372036854775807)) (Ff1_0h : Hid (w.cell? ⟨gf1_0, 0, none⟩ = some (.int .i64 hf1_0))) {r : Go.Proofs.Ytkinlkmmelkdnaa.PShade.Shade} (H : Hid (P fuel x hf1_0 = some r)) :
    Calls Try.prog 108 #[.slice A0 x.length c0, .func (.func 109) #[] #[.pointer (some ⟨gf1_0, 0, none⟩)]] w (Gives ((Go.Proofs.Ytkinlkmmelkdnaa.PShade.Shade.val r)) w) := by
  have HB := Lib.hid (Below.refl w.heap.size w)
  unfold P at H
  have N0o := N0.out
  have Ff1_0 := Ff1_0h.out
  go_enter Try.func108, Try.ntmps108
  obtain ⟨w_t_0, hw_t_0⟩ : ∃ x, w.alloc (.cells #[.string (⟨#[]⟩ : ByteArray), .int .i64 0, .int .i64 0, .int .i64 0, .int .i64 0] 74) = x := ⟨_, rfl⟩
  have bw_t_0 : Below w.heap.size w w_t_0 := by rw [← hw_t_0]; exact (Below.refl _ _).alloc (Nat.le_refl _) _
  have HBw_t_0 := Lib.hid (Below.step HB.out bw_t_0)
  have Ff1_0__420 := cell_below bw_t_0 Ff1_0
  clear bw_t_0
  have kt_0_0 : w_t_0.cell? ⟨w.heap.size, 0, none⟩ = some (.string (⟨#[]⟩ : ByteArray)) := by rw [← hw_t_0]; exact box_new _ _ _ 0 _ rfl
  have kt_0_1 : w_t_0.cell? ⟨w.heap.size, 1, none⟩ = some (.int .i64 0) := by rw [← hw_t_0]; exact box_new _ _ _ 1 _ rfl
  have kt_0_2 : w_t_0.cell? ⟨w.heap.size, 2, none⟩ = some (.int .i64 0) := by rw [← hw_t_0]; exact box_new _ _ _ 2 _ rfl
  have kt_0_3 : w_t_0.cell? ⟨w.heap.size, 3, none⟩ = some (.int .i64 0) := by rw [← hw_t_0]; exact box_new _ _ _ 3 _ rfl
  have kt_0_4 : w_t_0.cell? ⟨w.heap.size, 4, none⟩ = some (.int .i64 0) := by rw [← hw_t_0]; exact box_new _ _ _ 4 _ rfl
  have Ot_0 : Hid (w_t_0.ownsRow w.heap.size 74 5 (.slice (some ⟨w.heap.size, 0, none⟩) 1 1) 1 [.string (⟨#[]⟩ : ByteArray), .int .i64 0, .int .i64 0, .int .i64 0, .int .i64 0]) := Lib.hid (by rw [← hw_t_0]; exact own_laid (n := 1) HB.out.size rfl rfl (by unfold maxLen; omega))
  replace H := let_hid H
  obtain ⟨t_3, ht_3, H⟩ := H
  cases t_3 with
  | false =>
    have nht_3 : ¬ (x.length < 1) := by have := of_decide_eq_false ht_3; omega
    replace H := ite_f H
    unfold j0 at H
    replace H := idx_hid H
    obtain ⟨nt_7, yt_7, et_7, lt_7, gt_7, H⟩ := H
    obtain rfl : 0 = nt_7 := by omega
    clear et_7
    obtain ⟨t_7_name, t_7_hue, t_7_width, t_7_dark, t_7_light⟩ := yt_7
    replace H := unShade_hid H
    obtain ⟨ab_t_7, ao_t_7, zt_7, At_7, z_t_7, ct_7_0, ct_7_1, ct_7_2, ct_7_3, ct_7_4⟩ := Go.Proofs.Ytkinlkmmelkdnaa.OShade.at_ M0.out lt_7
    obtain rfl := Option.some.inj (gt_7.out.symm.trans z_t_7)
    subst At_7
    have ltt_7 := cell_lt ct_7_0
    replace ct_7_0 := cell_below HBw_t_0.out ct_7_0
    replace ct_7_1 := cell_below HBw_t_0.out ct_7_1
    replace ct_7_2 := cell_below HBw_t_0.out ct_7_2
    replace ct_7_3 := cell_below HBw_t_0.out ct_7_3
    replace ct_7_4 := cell_below HBw_t_0.out ct_7_4
    clear z_t_7
    have b1t_7 : (0 : Int) < ((x.length : Nat) : Int) := by omega
    have b3t_7 : 0 < x.length := by omega
    try simp only [Nat.zero_mul, Nat.add_zero, Nat.zero_add, Nat.reduceMul] at ct_7_0 ct_7_1 ct_7_2 ct_7_3 ct_7_4
    obtain ⟨w_m_9, hw_m_9⟩ : ∃ x, w_t_0.alloc (.cells #[.string t_7_name, .int .i64 t_7_hue, .int .i64 t_7_width, .int .i64 t_7_dark, .int .i64 t_7_light] 74) = x := ⟨_, rfl⟩
    have bw_m_9 : Below w_t_0.heap.size w_t_0 w_m_9 := by rw [← hw_m_9]; exact (Below.refl _ _).alloc (Nat.le_refl _) _
    have Dm_9_t_0 := Lib.hid (apart_box kt_0_0)
    have HBw_m_9 := Lib.hid (Below.step HBw_t_0.out bw_m_9)
    have Ff1_0__421 := cell_below bw_m_9 Ff1_0__420
    have kt_0_0__422 := cell_below bw_m_9 kt_0_0
    have kt_0_1__423 := cell_below bw_m_9 kt_0_1
    have kt_0_2__424 := cell_below bw_m_9 kt_0_2
    have kt_0_3__425 := cell_below bw_m_9 kt_0_3
    have kt_0_4__426 := cell_below bw_m_9 kt_0_4
    have ct_7_0__427 := cell_below bw_m_9 ct_7_0
    have ct_7_1__428 := cell_below bw_m_9 ct_7_1
    have ct_7_2__429 := cell_below bw_m_9 ct_7_2
    have ct_7_3__430 := cell_below bw_m_9 ct_7_3
    have ct_7_4__431 := cell_below bw_m_9 ct_7_4
    replace Ot_0 := Lib.hid (own_below Ot_0.out bw_m_9)
    clear bw_m_9
    have km_9_0 : w_m_9.cell? ⟨w_t_0.heap.size, 0, none⟩ = some (.string t_7_name) := by rw [← hw_m_9]; exact box_new _ _ _ 0 _ rfl
    have km_9_1 : w_m_9.cell? ⟨w_t_0.heap.size, 1, none⟩ = some (.int .i64 t_7_hue) := by rw [← hw_m_9]; exact box_new _ _ _ 1 _ rfl
    have km_9_2 : w_m_9.cell? ⟨w_t_0.heap.size, 2, none⟩ = some (.int .i64 t_7_width) := by rw [← hw_m_9]; exact box_new _ _ _ 2 _ rfl
    have km_9_3 : w_m_9.cell? ⟨w_t_0.heap.size, 3, none⟩ = some (.int .i64 t_7_dark) := by rw [← hw_m_9]; exact box_new _ _ _ 3 _ rfl
    have km_9_4 : w_m_9.cell? ⟨w_t_0.heap.size, 4, none⟩ = some (.int .i64 t_7_light) := by rw [← hw_m_9]; exact box_new _ _ _ 4 _ rfl
    have Om_9 : Hid (w_m_9.ownsRow w.heap.size 74 5 (.slice (some ⟨w_t_0.heap.size, 0, none⟩) 1 1) 1 [.string t_7_name, .int .i64 t_7_hue, .int .i64 t_7_width, .int .i64 t_7_dark, .int .i64 t_7_light]) := Lib.hid (by rw [← hw_m_9]; exact own_laid (n := 1) HBw_t_0.out.size rfl rfl (by unfold maxLen; omega))
    go_wp2_with fail
    clear Ff1_0 Ff1_0__420 kt_0_0 kt_0_1 kt_0_2 kt_0_3 kt_0_4 ct_7_0 ct_7_1 ct_7_2 ct_7_3 ct_7_4
    go_loopg [6] (fuel) (fun m_ v6_ wr => ∃ (i_6l0 : Int) (m_9_c0l0 : ByteArray) (m_9_c1l0 : Int) (m_9_c2l0 : Int) (m_9_c3l0 : Int) (m_9_c4l0 : Int), v6_ = .int .i64 i_6l0 ∧ Hid (loopK (l0 x hf1_0) m_ (i_6l0, m_9_c0l0, m_9_c1l0, m_9_c2l0, m_9_c3l0, m_9_c4l0) (e0 ) = some r) ∧ Hid (Below w.heap.size w wr) ∧ wr.cell? ⟨gf1_0, 0, none⟩ = some (.int .i64 hf1_0) ∧ wr.cell? ⟨w.heap.size, 0, none⟩ = some (.string (⟨#[]⟩ : ByteArray)) ∧ wr.cell? ⟨w.heap.size, 1, none⟩ = some (.int .i64 0) ∧ wr.cell? ⟨w.heap.size, 2, none⟩ = some (.int .i64 0) ∧ wr.cell? ⟨w.heap.size, 3, none⟩ = some (.int .i64 0) ∧ wr.cell? ⟨w.heap.size, 4, none⟩ = some (.int .i64 0) ∧ wr.cell? ⟨w_t_0.heap.size, 0, none⟩ = some (.string m_9_c0l0) ∧ wr.cell? ⟨w_t_0.heap.size, 1, none⟩ = some (.int .i64 m_9_c1l0) ∧ wr.cell? ⟨w_t_0.heap.size, 2, none⟩ = some (.int .i64 m_9_c2l0) ∧ wr.cell? ⟨w_t_0.heap.size, 3, none⟩ = some (.int .i64 m_9_c3l0) ∧ wr.cell? ⟨w_t_0.heap.size, 4, none⟩ = some (.int .i64 m_9_c4l0) ∧ Hid (wr.ownsRow w.heap.size 74 5 (.slice (some ⟨w.heap.size, 0, none⟩) 1 1) 1 [.string (⟨#[]⟩ : ByteArray), .int .i64 0, .int .i64 0, .int .i64 0, .int .i64 0]) ∧ Hid (wr.ownsRow w.heap.size 74 5 (.slice (some ⟨w_t_0.heap.size, 0, none⟩) 1 1) 1 [.string m_9_c0l0, .int .i64 m_9_c1l0, .int .i64 m_9_c2l0, .int .i64 m_9_c3l0, .int .i64 m_9_c4l0]))
    case atStart => exact ⟨_, _, _, _, _, _, rfl, H, HBw_m_9, Ff1_0__421, kt_0_0__422, kt_0_1__423, kt_0_2__424, kt_0_3__425, kt_0_4__426, km_9_0, km_9_1, km_9_2, km_9_3, km_9_4, Ot_0, Om_9⟩
    case round =>
      obtain ⟨i_6l0, m_9_c0l0, m_9_c1l0, m_9_c2l0, m_9_c3l0, m_9_c4l0, rfl, H, HBwr0, Ff1_0__421, kt_0_0__422, kt_0_1__423, kt_0_2__424, kt_0_3__425, kt_0_4__426, km_9_0, km_9_1, km_9_2, km_9_3, km_9_4, Ot_0, Om_9⟩ := hrel
      rename World => wr0
      cases gk with
      | zero => exact (loop_zero H).elim
      | succ m0 =>
        replace H := loop_succ H
        unfold l0 at H
        replace H := unp6_hid H
        replace H := let_hid H
        obtain ⟨t_15, ht_15, H⟩ := H
        cases t_15 with
        | false =>
          replace H := ite_f H
          replace H := app_hid H
          unfold e0 at H
          replace H := unp6_hid H
          obtain ⟨wb33_33, hwb33_33⟩ : ∃ x, (((((wr0).setCell ⟨w.heap.size, 0, none⟩ (.string m_9_c0l0)).setCell ⟨w.heap.size, 1, none⟩ (.int .i64 m_9_c1l0)).setCell ⟨w.heap.size, 2, none⟩ (.int .i64 m_9_c2l0)).setCell ⟨w.heap.size, 3, none⟩ (.int .i64 m_9_c3l0)).setCell ⟨w.heap.size, 4, none⟩ (.int .i64 m_9_c4l0) = x := ⟨_, rfl⟩
          have z0b33_33 := Ot_0.out.frozenAt 0
          have z1b33_33 := Ot_0.out.frozenAt 1
          have z2b33_33 := Ot_0.out.frozenAt 2
          have z3b33_33 := Ot_0.out.frozenAt 3
          have z4b33_33 := Ot_0.out.frozenAt 4
          have Sb33_33 := Lib.hid (own_stores [(0, .string m_9_c0l0), (1, .int .i64 m_9_c1l0), (2, .int .i64 m_9_c2l0), (3, .int .i64 m_9_c3l0), (4, .int .i64 m_9_c4l0)] Ot_0.out)
          have Pb33_33 : Hid (wb33_33.ownsRow w.heap.size 74 5 (.slice (some ⟨w.heap.size, 0, none⟩) 1 1) 1 [.string m_9_c0l0, .int .i64 m_9_c1l0, .int .i64 m_9_c2l0, .int .i64 m_9_c3l0, .int .i64 m_9_c4l0]) := Lib.hid (by rw [← hwb33_33]; exact Sb33_33.out.1)
          have Gb33_33 : Hid (wr0.grownBy wb33_33 (Value.slice (some ⟨w.heap.size, 0, none⟩) 1 1).ownBlock) := Lib.hid (by rw [← hwb33_33]; exact Sb33_33.out.2)
          have HBwb33_33 := Lib.hid (HBwr0.out.grown Gb33_33.out HBwr0.out.size (fun q hq => (Ot_0.out.lt q hq).1))
          clear Sb33_33
          have Ff1_0__432 := cell_below HBwb33_33.out Ff1_0h.out
          have km_9_0__433 := cell_other km_9_0 Gb33_33.out (Apart.symm Dm_9_t_0.out)
          have km_9_1__434 := cell_other km_9_1 Gb33_33.out (Apart.symm Dm_9_t_0.out)
          have km_9_2__435 := cell_other km_9_2 Gb33_33.out (Apart.symm Dm_9_t_0.out)
          have km_9_3__436 := cell_other km_9_3 Gb33_33.out (Apart.symm Dm_9_t_0.out)
          have km_9_4__437 := cell_other km_9_4 Gb33_33.out (Apart.symm Dm_9_t_0.out)
          replace Om_9 := Lib.hid (own_other Om_9.out Gb33_33.out (Apart.symm Dm_9_t_0.out))
          clear Ot_0 Gb33_33
          have kt_0_0__438 : wb33_33.cell? ⟨w.heap.size, 0, none⟩ = some (.string m_9_c0l0) := Pb33_33.out.cells rfl 0 _ rfl
          have kt_0_1__439 : wb33_33.cell? ⟨w.heap.size, 1, none⟩ = some (.int .i64 m_9_c1l0) := Pb33_33.out.cells rfl 1 _ rfl
          have kt_0_2__440 : wb33_33.cell? ⟨w.heap.size, 2, none⟩ = some (.int .i64 m_9_c2l0) := Pb33_33.out.cells rfl 2 _ rfl
          have kt_0_3__441 : wb33_33.cell? ⟨w.heap.size, 3, none⟩ = some (.int .i64 m_9_c3l0) := Pb33_33.out.cells rfl 3 _ rfl
          have kt_0_4__442 : wb33_33.cell? ⟨w.heap.size, 4, none⟩ = some (.int .i64 m_9_c4l0) := Pb33_33.out.cells rfl 4 _ rfl
          cases ret_hid H
          go_wp2_with fail
          (try simp only [Exit.inBlock, Exit.then])
          refine bodyPost_ret (v := .agg #[.string m_9_c0l0, .int .i64 m_9_c1l0, .int .i64 m_9_c2l0, .int .i64 m_9_c3l0, .int .i64 m_9_c4l0]) ?hr_ ?hd_ ?_
          case hd_ => rfl
          case hr_ => simp [results, Try.results108, kt_0_0__438, kt_0_1__439, kt_0_2__440, kt_0_3__441, kt_0_4__442, go_sem]
          exact ⟨rfl, HBwb33_33.out⟩
        | true =>
          replace H := ite_t H
          go_wp2_with fail
          have HFf1_0__421 := Lib.hid Ff1_0__421
          replace Ff1_0__421 := cell_regrown Ff1_0__421
          have Hkt_0_0__422 := Lib.hid kt_0_0__422
          replace kt_0_0__422 := cell_regrown kt_0_0__422
          have Hkt_0_1__423 := Lib.hid kt_0_1__423
          replace kt_0_1__423 := cell_regrown kt_0_1__423
          have Hkt_0_2__424 := Lib.hid kt_0_2__424
          replace kt_0_2__424 := cell_regrown kt_0_2__424
          have Hkt_0_3__425 := Lib.hid kt_0_3__425
          replace kt_0_3__425 := cell_regrown kt_0_3__425
          have Hkt_0_4__426 := Lib.hid kt_0_4__426
          replace kt_0_4__426 := cell_regrown kt_0_4__426
          have Hkm_9_0 := Lib.hid km_9_0
          replace km_9_0 := cell_regrown km_9_0
          have Hkm_9_1 := Lib.hid km_9_1
          replace km_9_1 := cell_regrown km_9_1
          have Hkm_9_2 := Lib.hid km_9_2
          replace km_9_2 := cell_regrown km_9_2
          have Hkm_9_3 := Lib.hid km_9_3
          replace km_9_3 := cell_regrown km_9_3
          have Hkm_9_4 := Lib.hid km_9_4
          replace km_9_4 := cell_regrown km_9_4
          replace H := idx_hid H
          obtain ⟨nt_19, yt_19, et_19, lt_19, gt_19, H⟩ := H
          subst et_19
          have nc_443 : nt_19 < x.length := by have := of_decide_eq_true ht_15; omega
          obtain ⟨t_19_name, t_19_hue, t_19_width, t_19_dark, t_19_light⟩ := yt_19
          replace H := unShade_hid H
          obtain ⟨ab_t_19, ao_t_19, zt_19, At_19, z_t_19, ct_19_0, ct_19_1, ct_19_2, ct_19_3, ct_19_4⟩ := Go.Proofs.Ytkinlkmmelkdnaa.OShade.at_ M0.out lt_19
          obtain rfl := Option.some.inj (gt_19.out.symm.trans z_t_19)
          simp only [Option.some.injEq, Addr.mk.injEq] at At_19
          obtain ⟨rfl, rfl, _⟩ := At_19
          have ltt_19 := cell_lt ct_19_0
          replace ct_19_0 := cell_below HBwr0.out ct_19_0
          replace ct_19_1 := cell_below HBwr0.out ct_19_1
          replace ct_19_2 := cell_below HBwr0.out ct_19_2
          replace ct_19_3 := cell_below HBwr0.out ct_19_3
          replace ct_19_4 := cell_below HBwr0.out ct_19_4
          clear z_t_19
          have b0t_19 : (0 : Int) ≤ (nt_19 : Int) := by omega
          have b1t_19 : (nt_19 : Int) < ((x.length : Nat) : Int) := by omega
          have b2t_19 : ((nt_19 : Int)).toNat = nt_19 := by omega
          have Hct_19_0 := Lib.hid ct_19_0
          replace ct_19_0 := cell_regrown ct_19_0
          have Hct_19_1 := Lib.hid ct_19_1
          replace ct_19_1 := cell_regrown ct_19_1
          have Hct_19_2 := Lib.hid ct_19_2
          replace ct_19_2 := cell_regrown ct_19_2
          have Hct_19_3 := Lib.hid ct_19_3
          replace ct_19_3 := cell_regrown ct_19_3
          have Hct_19_4 := Lib.hid ct_19_4
          replace ct_19_4 := cell_regrown ct_19_4
          replace H := bind_hid H
          obtain ⟨t_22, qt_22, H⟩ := H
          have nt_22 : ∀ d os, Calls Try.prog 109 #[.agg #[.string t_19_name, .int .i64 t_19_hue, .int .i64 t_19_width, .int .i64 t_19_dark, .int .i64 t_19_light], .agg #[.string m_9_c0l0, .int .i64 m_9_c1l0, .int .i64 m_9_c2l0, .int .i64 m_9_c3l0, .int .i64 m_9_c4l0], .pointer (some ⟨gf1_0, 0, none⟩)] (Go.Sort.grow (redrawn wr0 d) os) fun e w'' => e = .returned (.int .i64 t_22) ∧ ∃ p : Regrown, w'' = Go.Sort.grow (redrawn wr0 p.d) p.os := fun d os => Calls.regrown_of (Go.Proofs.Ytkinlkmmelkdnaa.GiBestShade2.C ((Go.Proofs.Ytkinlkmmelkdnaa.PShade.Shade.mk t_19_name t_19_hue t_19_width t_19_dark t_19_light)) ((Go.Proofs.Ytkinlkmmelkdnaa.PShade.Shade.mk m_9_c0l0 m_9_c1l0 m_9_c2l0 m_9_c3l0 m_9_c4l0)) (hf1_0) (gf1_0) _   (Lib.hid (Ff1_0__421 _ _)) qt_22)
          replace H := let_hid H
          obtain ⟨t_23, ht_23, H⟩ := H
          refine wp_region_quiet_below (by kernel_rfl) (by kernel_rfl) ?_
          repeat (go_big_quiet_step (first | (go_at_call 109; exact nt_22 _ _)))
          refine wpQuiet_nil ?_
          intro Y7 hY7
          replace hY7 := below_class hY7
          clear nt_22
          replace Ff1_0__421 := HFf1_0__421.out
          clear HFf1_0__421
          replace kt_0_0__422 := Hkt_0_0__422.out
          clear Hkt_0_0__422
          replace kt_0_1__423 := Hkt_0_1__423.out
          clear Hkt_0_1__423
          replace kt_0_2__424 := Hkt_0_2__424.out
          clear Hkt_0_2__424
          replace kt_0_3__425 := Hkt_0_3__425.out
          clear Hkt_0_3__425
          replace kt_0_4__426 := Hkt_0_4__426.out
          clear Hkt_0_4__426
          replace km_9_0 := Hkm_9_0.out
          clear Hkm_9_0
          replace km_9_1 := Hkm_9_1.out
          clear Hkm_9_1
          replace km_9_2 := Hkm_9_2.out
          clear Hkm_9_2
          replace km_9_3 := Hkm_9_3.out
          clear Hkm_9_3
          replace km_9_4 := Hkm_9_4.out
          clear Hkm_9_4
          replace ct_19_0 := Hct_19_0.out
          clear Hct_19_0
          replace ct_19_1 := Hct_19_1.out
          clear Hct_19_1
          replace ct_19_2 := Hct_19_2.out
          clear Hct_19_2
          replace ct_19_3 := Hct_19_3.out
          clear Hct_19_3
          replace ct_19_4 := Hct_19_4.out
          clear Hct_19_4
          have HBY7 := Lib.hid (Below.step HBwr0.out hY7)
          replace Ff1_0__421 := cell_below hY7 Ff1_0__421
          replace kt_0_0__422 := cell_below hY7 kt_0_0__422
          replace kt_0_1__423 := cell_below hY7 kt_0_1__423
          replace kt_0_2__424 := cell_below hY7 kt_0_2__424
          replace kt_0_3__425 := cell_below hY7 kt_0_3__425
          replace kt_0_4__426 := cell_below hY7 kt_0_4__426
          replace km_9_0 := cell_below hY7 km_9_0
          replace km_9_1 := cell_below hY7 km_9_1
          replace km_9_2 := cell_below hY7 km_9_2
          replace km_9_3 := cell_below hY7 km_9_3
          replace km_9_4 := cell_below hY7 km_9_4
          replace ct_19_0 := cell_below hY7 ct_19_0
          replace ct_19_1 := cell_below hY7 ct_19_1
          replace ct_19_2 := cell_below hY7 ct_19_2
          replace ct_19_3 := cell_below hY7 ct_19_3
          replace ct_19_4 := cell_below hY7 ct_19_4
          replace Ot_0 := Lib.hid (own_below Ot_0.out hY7)
          replace Om_9 := Lib.hid (own_below Om_9.out hY7)
          clear hY7
          cases t_23 with
          | false =>
            replace H := ite_f H
            replace H := let_hid H
            obtain ⟨t_30, ht_30, H⟩ := H
            replace H := app_hid H
            go_wp2_with fail
            go_roundg m0
            case measure => omega
            case rel => exact ⟨_, _, _, _, _, _, rfl, H, HBY7, Ff1_0__421, kt_0_0__422, kt_0_1__423, kt_0_2__424, kt_0_3__425, kt_0_4__426, km_9_0, km_9_1, km_9_2, km_9_3, km_9_4, Ot_0, Om_9⟩
          | true =>
            replace H := ite_t H
            replace H := idx_hid H
            obtain ⟨nt_26, yt_26, et_26, lt_26, gt_26, H⟩ := H
            obtain rfl : nt_19 = nt_26 := by omega
            clear et_26
            obtain rfl := Option.some.inj (gt_19.out.symm.trans gt_26.out)
            clear gt_26 lt_26
            replace H := unShade_hid H
            obtain ⟨wb28_28, hwb28_28⟩ : ∃ x, (((((Y7).setCell ⟨w_t_0.heap.size, 0, none⟩ (.string t_19_name)).setCell ⟨w_t_0.heap.size, 1, none⟩ (.int .i64 t_19_hue)).setCell ⟨w_t_0.heap.size, 2, none⟩ (.int .i64 t_19_width)).setCell ⟨w_t_0.heap.size, 3, none⟩ (.int .i64 t_19_dark)).setCell ⟨w_t_0.heap.size, 4, none⟩ (.int .i64 t_19_light) = x := ⟨_, rfl⟩
            have z0b28_28 := Om_9.out.frozenAt 0
            have z1b28_28 := Om_9.out.frozenAt 1
            have z2b28_28 := Om_9.out.frozenAt 2
            have z3b28_28 := Om_9.out.frozenAt 3
            have z4b28_28 := Om_9.out.frozenAt 4
            have Sb28_28 := Lib.hid (own_stores [(0, .string t_19_name), (1, .int .i64 t_19_hue), (2, .int .i64 t_19_width), (3, .int .i64 t_19_dark), (4, .int .i64 t_19_light)] Om_9.out)
            have Pb28_28 : Hid (wb28_28.ownsRow w.heap.size 74 5 (.slice (some ⟨w_t_0.heap.size, 0, none⟩) 1 1) 1 [.string t_19_name, .int .i64 t_19_hue, .int .i64 t_19_width, .int .i64 t_19_dark, .int .i64 t_19_light]) := Lib.hid (by rw [← hwb28_28]; exact Sb28_28.out.1)
            have Gb28_28 : Hid (Y7.grownBy wb28_28 (Value.slice (some ⟨w_t_0.heap.size, 0, none⟩) 1 1).ownBlock) := Lib.hid (by rw [← hwb28_28]; exact Sb28_28.out.2)
            have HBwb28_28 := Lib.hid (HBY7.out.grown Gb28_28.out HBY7.out.size (fun q hq => (Om_9.out.lt q hq).1))
            clear Sb28_28
            have Ff1_0__444 := cell_below HBwb28_28.out Ff1_0h.out
            have kt_0_0__445 := cell_other kt_0_0__422 Gb28_28.out Dm_9_t_0.out
            have kt_0_1__446 := cell_other kt_0_1__423 Gb28_28.out Dm_9_t_0.out
            have kt_0_2__447 := cell_other kt_0_2__424 Gb28_28.out Dm_9_t_0.out
            have kt_0_3__448 := cell_other kt_0_3__425 Gb28_28.out Dm_9_t_0.out
            have kt_0_4__449 := cell_other kt_0_4__426 Gb28_28.out Dm_9_t_0.out
            have ct_19_0__450 := cell_other ct_19_0 Gb28_28.out (apart_old Om_9.out ltt_19)
            have ct_19_1__451 := cell_other ct_19_1 Gb28_28.out (apart_old Om_9.out ltt_19)
            have ct_19_2__452 := cell_other ct_19_2 Gb28_28.out (apart_old Om_9.out ltt_19)
            have ct_19_3__453 := cell_other ct_19_3 Gb28_28.out (apart_old Om_9.out ltt_19)
            have ct_19_4__454 := cell_other ct_19_4 Gb28_28.out (apart_old Om_9.out ltt_19)
            replace Ot_0 := Lib.hid (own_other Ot_0.out Gb28_28.out Dm_9_t_0.out)
            clear Om_9 Gb28_28
            have km_9_0__455 : wb28_28.cell? ⟨w_t_0.heap.size, 0, none⟩ = some (.string t_19_name) := Pb28_28.out.cells rfl 0 _ rfl
            have km_9_1__456 : wb28_28.cell? ⟨w_t_0.heap.size, 1, none⟩ = some (.int .i64 t_19_hue) := Pb28_28.out.cells rfl 1 _ rfl
            have km_9_2__457 : wb28_28.cell? ⟨w_t_0.heap.size, 2, none⟩ = some (.int .i64 t_19_width) := Pb28_28.out.cells rfl 2 _ rfl
            have km_9_3__458 : wb28_28.cell? ⟨w_t_0.heap.size, 3, none⟩ = some (.int .i64 t_19_dark) := Pb28_28.out.cells rfl 3 _ rfl
            have km_9_4__459 : wb28_28.cell? ⟨w_t_0.heap.size, 4, none⟩ = some (.int .i64 t_19_light) := Pb28_28.out.cells rfl 4 _ rfl
            replace H := let_hid H
            obtain ⟨t_30, ht_30, H⟩ := H
            replace H := app_hid H
            go_wp2_with fail
            clear z0b28_28 z1b28_28 z2b28_28 z3b28_28 z4b28_28 Ff1_0__421 kt_0_0__422 kt_0_1__423 kt_0_2__424 kt_0_3__425 kt_0_4__426 ct_19_0 ct_19_1 ct_19_2 ct_19_3 ct_19_4 km_9_0 km_9_1 km_9_2 km_9_3 km_9_4
            go_roundg m0
            case measure => omega
            case rel => exact ⟨_, _, _, _, _, _, rfl, H, HBwb28_28, Ff1_0__444, kt_0_0__445, kt_0_1__446, kt_0_2__447, kt_0_3__448, kt_0_4__449, km_9_0__455, km_9_1__456, km_9_2__457, km_9_3__458, km_9_4__459, Ot_0, Pb28_28⟩
  | true =>
    have nht_3 : x.length < 1 := by have := of_decide_eq_true ht_3; omega
    replace H := ite_t H
    exact (none_hid H).elim
end Go.Proofs.Ytkinlkmmelkdnaa.GxSlicesMinFuncLoopExampleG01062ImplShadeLoopExampleG01062ImplShadeiBestShade2

