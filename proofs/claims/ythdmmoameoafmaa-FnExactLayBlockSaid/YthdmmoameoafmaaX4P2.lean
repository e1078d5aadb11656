/- Texts on which the proofs of several laws stand, one behind the other (2 of 5). No condition of their own. -/
import Derived.Test.YthdmmoameoafmaaChecked
import Derived.Test.YthdmmoameoafmaaX4P1
import Derived.WalkKit
import Derived.WalkSpells
import Derived.WalkLawsBesides
import Derived.BigQuiet
import Derived.OwnWalk
import Derived.Deep.LoopGhost
import Derived.Deep.QuietTactic
import Derived.IntWalk
import Derived.Lib.QuietBelow
import Derived.Lib.ConvBytes
import Derived.Laws.BytesString
import Derived.Laws.IdiomStrings
import Derived.Laws.BytesArg
import Derived.Lib.Hide
import Derived.Lib.LaidU8
import Derived.Outline
import Derived.Lib.SliceRun
/- loop.example/g01062/spec.l4Lay as a plain function, and the contract of the program's: where the plain one has an answer, the program has it. Conditions: slices read as lists. -/
namespace Go.Proofs.Ythdmmoameoafmaa.GsL4Lay
set_option linter.unusedVariables false
set_option linter.unusedSimpArgs false
open Go.RowKit
open Go.Proofs.Ythdmmoameoafmaa.Rowed Go.Proofs.Ythdmmoameoafmaa.Turn Go.Proofs.Ythdmmoameoafmaa.Aid Go.Proofs.Ythdmmoameoafmaa.GoP Go.Proofs.Ythdmmoameoafmaa.GoM

def j0 (nx1 : (ByteArray × Int) → Option ((List ByteArray))) (s_11l1 : ByteArray) (k_12l1 : Int) (s : ByteArray) : Option ((List ByteArray)) :=
  guardK (s_11l1.size + s.size ≤ maxLen) <|
  letK (s_11l1 ++ s) fun (t_69 : ByteArray) =>
  letK (IntKind.i64.wrap (k_12l1 + 1)) fun (t_72 : Int) =>
  appK nx1 (t_69, t_72)

def l1 (sheet : (List ByteArray)) (b_rows : (List ByteArray)) (row_2 : Int) (col : Int) (k0 : Nat) (s : ByteArray × Int) (nx1 bk1 : ByteArray × Int → Option ((List ByteArray))) : Option ((List ByteArray)) :=
  unp2 s fun s_11l1 k_12l1 =>
  Option.bind (idx sheet (k0 : Int)) fun (yt_14 : ByteArray) =>
  letK (decide (k_12l1 < (yt_14.size : Int))) fun (t_17 : Bool) =>
  iteK t_17
  (Option.bind (idx sheet (k0 : Int)) fun (yt_20 : ByteArray) =>
  letK (IntKind.i64.wrap (k_12l1 + 1)) fun (t_24 : Int) =>
  guardK ((0 : Int) ≤ k_12l1 ∧ (k_12l1 : Int) ≤ t_24 ∧ (t_24 : Int) ≤ (yt_20.size : Int)) <|
  letK (ByteArray.extract yt_20 (Int.toNat k_12l1) (Int.toNat t_24)) fun (t_25 : ByteArray) =>
  letK (IntKind.i64.wrap ((k0 : Int) - row_2)) fun (t_29 : Int) =>
  letK (IntKind.i64.wrap ((b_rows.length : Int) - 1)) fun (t_33 : Int) =>
  Option.bind (Go.Proofs.Ythdmmoameoafmaa.GsL1In.P t_29 0 t_33) fun (t_34 : Bool) =>
  joinK (fun (t_46 : Bool) =>
  joinK (fun (t_50 : Bool) =>
  iteK t_50
  (letK (IntKind.i64.wrap ((k0 : Int) - row_2)) fun (t_55 : Int) =>
  Option.bind (idx b_rows t_55) fun (yt_56 : ByteArray) =>
  letK (IntKind.i64.wrap (k_12l1 - col)) fun (t_60 : Int) =>
  letK (IntKind.i64.wrap (k_12l1 - col)) fun (t_63 : Int) =>
  letK (IntKind.i64.wrap (t_63 + 1)) fun (t_64 : Int) =>
  guardK ((0 : Int) ≤ t_60 ∧ (t_60 : Int) ≤ t_64 ∧ (t_64 : Int) ≤ (yt_56.size : Int)) <|
  letK (ByteArray.extract yt_56 (Int.toNat t_60) (Int.toNat t_64)) fun (t_65 : ByteArray) =>
  j0 nx1 s_11l1 k_12l1 (t_65))
  (j0 nx1 s_11l1 k_12l1 (t_25))) fun jt_50 => iteK t_46 (letK (t_25.toList == (⟨#[46]⟩ : ByteArray).toList) fun (t_49 : Bool) =>
  appK jt_50 t_49) (appK jt_50 false)) fun jt_46 => iteK t_34 (letK (IntKind.i64.wrap (k_12l1 - col)) fun (t_38 : Int) =>
  Option.bind (idx b_rows 0) fun (yt_41 : ByteArray) =>
  letK (IntKind.i64.wrap ((yt_41.size : Int) - 1)) fun (t_44 : Int) =>
  Option.bind (Go.Proofs.Ythdmmoameoafmaa.GsL1In.P t_38 0 t_44) fun (t_45 : Bool) =>
  appK jt_46 t_45) (appK jt_46 false))
  (appK bk1 (s_11l1, k_12l1))

def e1 (nx0 : ((List ByteArray)) → Option ((List ByteArray))) (out_9l0 : (List ByteArray)) (s : ByteArray × Int) : Option ((List ByteArray)) :=
  unp2 s fun s_11l1 k_12l1 =>
  guardK (out_9l0.length ≤ 1099511627776) <|
  letK (out_9l0 ++ [s_11l1]) fun (t_77 : (List ByteArray)) =>
  appK nx0 (t_77)

def l0 (sheet : (List ByteArray)) (b_rows : (List ByteArray)) (row_2 : Int) (col : Int) (fuel : Nat) (k0 : Nat) (s : (List ByteArray)) (nx0 bk0 : (List ByteArray) → Option ((List ByteArray))) : Option ((List ByteArray)) :=
  letK s fun out_9l0 =>
  loopK (l1 sheet b_rows row_2 col k0) fuel ((⟨#[]⟩ : ByteArray), 0) (e1 nx0 out_9l0)

def e0  (s : (List ByteArray)) : Option ((List ByteArray)) :=
  letK s fun out_9l0 =>
  some out_9l0

def P (fuel : Nat) (sheet : (List ByteArray)) (b_rows : (List ByteArray)) (row_2 : Int) (col : Int) : Option ((List ByteArray)) :=
  cntK (l0 sheet b_rows row_2 col fuel) (sheet.length) 0 (([] : List ByteArray)) (e0 )

set_option maxRecDepth 100000 in
set_option maxHeartbeats 2000000 in
theorem C (fuel : Nat) (sheet : (List ByteArray)) (b_rows : (List ByteArray)) (row_2 : Int) (col : Int) (A0 : Option Addr) (c0 : Nat) (A1_0 : Option Addr) (c1_0 : Nat)  (w : World) (M0 : Hid (Cells w 1 A0 sheet.length (sheet.map Value.string))) (N0 : Hid (sheet.length ≤ 9223372036854775807)) (M1_0 : Hid (Cells w 1 A1_0 b_rows.length (b_rows.map Value.string))) (N1_0 : Hid (b_rows.length ≤ 9223372036854775807))  {r : (List ByteArray)} (H : Hid (P fuel sheet b_rows row_2 col = some r)) :
    Calls Try.prog 18 #[.slice A0 sheet.length c0, .agg #[.slice A1_0 b_rows.length c1_0], .int .i64 row_2, .int .i64 col] w (fun e w' => ∃ A_r c_r, e = .returned (.slice A_r r.length c_r) ∧ w'.ownsRow w.heap.size 9 1 (.slice A_r r.length c_r) r.length (r.map Value.string) ∧ Below w.heap.size w w') := by
  have HB := Lib.hid (Below.refl w.heap.size w)
  unfold P at H
  have N0o := N0.out
  have N1_0o := N1_0.out
  obtain ⟨i0_9, hi_9, hz0_9, hz1_9, hz2_9⟩ := Aid.info_parts (P := Try.prog) (T := 9) (z := .string ByteArray.empty) (s := 1) (b := 16) (by kernel_rfl)
  go_enter Try.func18, Try.ntmps18
  obtain ⟨w_b_0, hw_b_0⟩ : ∃ x, w.alloc (.cells #[.slice A1_0 b_rows.length c1_0] 30) = x := ⟨_, rfl⟩
  have bw_b_0 : Below w.heap.size w w_b_0 := by rw [← hw_b_0]; exact (Below.refl _ _).alloc (Nat.le_refl _) _
  have HBw_b_0 := Lib.hid (Below.step HB.out bw_b_0)
  clear bw_b_0
  have kb_0_0 : w_b_0.cell? ⟨w.heap.size, 0, none⟩ = some (.slice A1_0 b_rows.length c1_0) := by rw [← hw_b_0]; exact box_new _ _ _ 0 _ rfl
  obtain ⟨w_t_2, hw_t_2⟩ : ∃ x, w_b_0.alloc (.cells #[] 9) = x := ⟨_, rfl⟩
  have bw_t_2 : Below w_b_0.heap.size w_b_0 w_t_2 := by rw [← hw_t_2]; exact (Below.refl _ _).alloc (Nat.le_refl _) _
  have Ot_2 : Hid (w_t_2.ownsRow w.heap.size 9 1 (.slice (some ⟨w_b_0.heap.size, 0, none⟩) 0 0) 0 []) := Lib.hid (by rw [← hw_t_2]; exact own_empty HBw_b_0.out.size)
  have Dt_2_b_0 := Lib.hid (apart_box kb_0_0)
  have HBw_t_2 := Lib.hid (Below.step HBw_b_0.out bw_t_2)
  have kb_0_0__14 := cell_below bw_t_2 kb_0_0
  clear bw_t_2
  go_wp2_with fail
  clear kb_0_0
  go_loopg [10, 9] (sheet.length) (fun m_ v10_ v9_ wr => ∃ (k0 : Nat) (out_9l0 : (List ByteArray)) (Aout_9l0 : Option Addr) (cout_9l0 : Nat), k0 + m_ = sheet.length ∧ v10_ = .int .i64 (k0 : Int) ∧ v9_ = .slice Aout_9l0 out_9l0.length cout_9l0 ∧ Hid (cntK (l0 sheet b_rows row_2 col fuel) m_ k0 (out_9l0) (e0 ) = some r) ∧ Hid (Below w.heap.size w wr) ∧ wr.cell? ⟨w.heap.size, 0, none⟩ = some (.slice A1_0 b_rows.length c1_0) ∧ Hid (wr.ownsRow w.heap.size 9 1 (.slice Aout_9l0 out_9l0.length cout_9l0) out_9l0.length (out_9l0.map Value.string)) ∧ Hid (Apart Aout_9l0 (some ⟨w.heap.size, 0, none⟩)))
  case atStart => exact ⟨0, _, _, _, by omega, rfl, rfl, H, HBw_t_2, kb_0_0__14, Ot_2, Lib.hid Dt_2_b_0.out⟩
  case round =>
    obtain ⟨k0, out_9l0, Aout_9l0, cout_9l0, hkm0, rfl, rfl, H, HBwr0, kb_0_0__14, Oout_9l0, Dout_9l0_b_0⟩ := hrel
    rename World => wr0
    cases gk with
    | zero =>
      obtain rfl : k0 = sheet.length := by omega
      have hc0 : decide (((sheet.length : Nat) : Int) < ((sheet.length : Nat) : Int)) = false := by simp
      replace H := cnt_zero H
      unfold e0 at H
      replace H := let_hid H
      obtain ⟨_, rfl, H⟩ := H
      obtain rfl := ret_hid H
      go_wp2_with fail
      go_ret
      exact ⟨Aout_9l0, cout_9l0, rfl, Oout_9l0.out, HBwr0.out⟩
    | succ m0 =>
      have hlt0 : k0 < sheet.length := by omega
      have hc0 : decide ((k0 : Int) < ((sheet.length : Nat) : Int)) = true := by simp; omega
      replace H := cnt_succ H
      unfold l0 at H
      replace H := let_hid H
      obtain ⟨_, rfl, H⟩ := H
      go_wp2_with fail
      go_loopg [11, 12] (fuel) (fun m_ v11_ v12_ wr => ∃ (s_11l1 : ByteArray) (k_12l1 : Int), v11_ = .string s_11l1 ∧ v12_ = .int .i64 k_12l1 ∧ Hid (loopK (l1 sheet b_rows row_2 col k0) m_ (s_11l1, k_12l1) (e1 (fun s' => cntK (l0 sheet b_rows row_2 col fuel) m0 (k0 + 1) s' (e0 )) out_9l0) = some r) ∧ Hid (Below w.heap.size w wr) ∧ wr.cell? ⟨w.heap.size, 0, none⟩ = some (.slice A1_0 b_rows.length c1_0) ∧ Hid (wr.ownsRow w.heap.size 9 1 (.slice Aout_9l0 out_9l0.length cout_9l0) out_9l0.length (out_9l0.map Value.string)))
      case atStart => exact ⟨_, _, rfl, rfl, H, HBwr0, kb_0_0__14, Oout_9l0⟩
      case round =>
        obtain ⟨s_11l1, k_12l1, rfl, rfl, H, HBwr1, kb_0_0__14, Oout_9l0⟩ := hrel
        rename World => wr1
        cases gk with
        | zero => exact (loop_zero H).elim
        | succ m1 =>
          replace H := loop_succ H
          unfold l1 at H
          replace H := unp2_hid H
          replace H := idx_hid H
          obtain ⟨nt_14, yt_14, et_14, lt_14, gt_14, H⟩ := H
          obtain rfl : k0 = nt_14 := by omega
          clear et_14
          obtain ⟨ab_t_14, ao_t_14, zt_14, At_14, z_t_14, ct_14_0⟩ := strs_at M0.out lt_14
          obtain rfl := Option.some.inj (gt_14.out.symm.trans z_t_14)
          subst At_14
          have ltt_14 := cell_lt ct_14_0
          replace ct_14_0 := cell_below HBwr1.out ct_14_0
          clear z_t_14
          have b0t_14 : (0 : Int) ≤ (k0 : Int) := by omega
          have b1t_14 : (k0 : Int) < ((sheet.length : Nat) : Int) := by omega
          have b2t_14 : ((k0 : Int)).toNat = k0 := by omega
          replace H := let_hid H
          obtain ⟨t_17, ht_17, H⟩ := H
          cases t_17 with
          | false =>
            replace H := ite_f H
            replace H := app_hid H
            unfold e1 at H
            replace H := unp2_hid H
            obtain ⟨w_t_76, hw_t_76⟩ : ∃ x, wr1.alloc (.cells #[.string s_11l1] 9) = x := ⟨_, rfl⟩
            have bw_t_76 : Below wr1.heap.size wr1 w_t_76 := by rw [← hw_t_76]; exact (Below.refl _ _).alloc (Nat.le_refl _) _
            have HBw_t_76 := Lib.hid (Below.step HBwr1.out bw_t_76)
            have kb_0_0__15 := cell_below bw_t_76 kb_0_0__14
            have ct_14_0__16 := cell_below bw_t_76 ct_14_0
            replace Oout_9l0 := Lib.hid (own_below Oout_9l0.out bw_t_76)
            clear bw_t_76
            replace H := guard_hid H
            obtain ⟨hlt_77, H⟩ := H
            replace H := let_hid H
            obtain ⟨t_77, ht_77, H⟩ := H
            have hht_77 := Lib.hid ht_77
            clear ht_77
            have hst_77 := HBw_t_76.out.size
            go_wp2_with (at_builtin; refine wpList_append_own_at _ rfl _ _ 22 rfl w.heap.size 9 i0_9 (.string ByteArray.empty) 1 16 Try.underlying22 hi_9 hz0_9 hz1_9 hz2_9 rfl (by decide) _ _ _ rfl Oout_9l0.out ⟨wr1.heap.size, 0, none⟩ 1 1 [.string s_11l1] rfl rfl (news_new hw_t_76) (one_cells rfl) (by unfold maxLen; omega) (by omega) hst_77 ?_; intro vt_77 wt_77 ot_77 gt_77 zt_77 yt_77; clear zt_77; obtain ⟨qt_77, ct_77, rfl, pt_77⟩ := own_push hht_77.out (by simp) rfl ot_77; have Pt_77 := Lib.hid pt_77; have Yt_77 := Lib.hid yt_77; have Gt_77 := Lib.hid gt_77; clear ot_77 gt_77 pt_77 yt_77; refine stop_in ?_)
            refine stop_out ?_
            have HBwt_77 := Lib.hid (HBw_t_76.out.grown Gt_77.out hst_77 (fun q hq => (Oout_9l0.out.lt q hq).1))
            clear hst_77
            have Dt_77_b_0 : Hid (Apart (some ⟨qt_77, 0, none⟩) _) := Lib.hid (apart_app Dout_9l0_b_0.out (fun a_ ha_ => by cases ha_; exact cell_lt kb_0_0__15) Yt_77.out)
            replace kb_0_0__15 := cell_other kb_0_0__15 Gt_77.out Dout_9l0_b_0.out
            replace ct_14_0__16 := cell_other ct_14_0__16 Gt_77.out (apart_old Oout_9l0.out ltt_14)
            clear kb_0_0__14 ct_14_0
            clear Oout_9l0 Yt_77 Gt_77
            replace H := app_hid H
            go_wp2_with fail
            go_roundg m0
            case measure => omega
            case rel => exact ⟨k0 + 1, _, _, _, by omega, by go_num, rfl, H, HBwt_77, kb_0_0__15, Pt_77, Lib.hid Dt_77_b_0.out⟩
          | true =>
            replace H := ite_t H
            replace H := idx_hid H
            obtain ⟨nt_20, yt_20, et_20, lt_20, gt_20, H⟩ := H
            obtain rfl : k0 = nt_20 := by omega
            clear et_20
            obtain rfl := Option.some.inj (gt_14.out.symm.trans gt_20.out)
            clear gt_20 lt_20
            replace H := let_hid H
            obtain ⟨t_24, ht_24, H⟩ := H
            replace H := guard_hid H
            obtain ⟨hl_t_25, H⟩ := H
            replace H := let_hid H
            obtain ⟨t_25, ht_25, H⟩ := H
            have ct_25 := slice_both (P := Try.prog) (t := 9) (k := .i64) (k' := .i64) Try.underlying9 ht_25 hl_t_25
            clear hl_t_25
            have hht_25 := Lib.hid ht_25
            clear ht_25
            replace H := let_hid H
            obtain ⟨t_29, ht_29, H⟩ := H
            replace H := let_hid H
            obtain ⟨t_33, ht_33, H⟩ := H
            try have hv_t_33 : (b_rows.length : Int) - 1 = t_33 := by rw [← ht_33]; exact (IntWalk.i64_in _ (by omega)).symm
            try have hv2_t_33 : IntKind.i64.wrap t_33 = t_33 := by rw [← hv_t_33]; exact IntWalk.i64_in _ (by omega)
            replace H := bind_hid H
            obtain ⟨t_34, qt_34, H⟩ := H
            go_wp2_with fail
            go_at_call 25
            refine (Go.Proofs.Ythdmmoameoafmaa.GsL1In.C (t_29) (0) (t_33)  _    qt_34).mono ?_
            rintro e_t_34 wt_34 ⟨rfl, bt_34⟩
            have HBwt_34 := Lib.hid (Below.step HBwr1.out bt_34)
            replace kb_0_0__14 := cell_below bt_34 kb_0_0__14
            replace ct_14_0 := cell_below bt_34 ct_14_0
            replace Oout_9l0 := Lib.hid (own_below Oout_9l0.out bt_34)
            clear bt_34
            replace H := join_hid H
            cases t_34 with
            | false =>
              replace H := ite_f H
              replace H := app_hid H
              replace H := join_hid H
              replace H := ite_f H
              replace H := app_hid H
              replace H := ite_f H
              unfold j0 at H
              replace H := guard_hid H
              obtain ⟨hl_t_69, H⟩ := H
              replace H := let_hid H
              obtain ⟨t_69, ht_69, H⟩ := H
              have ct_69 := cat_rule (P := Try.prog) ht_69 hl_t_69
              clear hl_t_69
              have hht_69 := Lib.hid ht_69
              clear ht_69
              replace H := let_hid H
              obtain ⟨t_72, ht_72, H⟩ := H
              obtain rfl := ht_24.symm.trans ht_72
              replace H := app_hid H
              go_wp2_with fail
              go_roundg m1
              case measure => omega
              case rel => exact ⟨_, _, rfl, rfl, H, HBwt_34, kb_0_0__14, Oout_9l0⟩
            | true =>
              replace H := ite_t H
              replace H := let_hid H
              obtain ⟨t_38, ht_38, H⟩ := H
              replace H := idx_hid H
              obtain ⟨nt_41, yt_41, et_41, lt_41, gt_41, H⟩ := H
              obtain rfl : 0 = nt_41 := by omega
              clear et_41
              obtain ⟨ab_t_41, ao_t_41, zt_41, At_41, z_t_41, ct_41_0⟩ := strs_at M1_0.out lt_41
              obtain rfl := Option.some.inj (gt_41.out.symm.trans z_t_41)
              subst At_41
              have ltt_41 := cell_lt ct_41_0
              replace ct_41_0 := cell_below HBwt_34.out ct_41_0
              clear z_t_41
              have b1t_41 : (0 : Int) < ((b_rows.length : Nat) : Int) := by omega
              have b3t_41 : 0 < b_rows.length := by omega
              try simp only [Nat.zero_mul, Nat.add_zero, Nat.zero_add, Nat.reduceMul] at ct_41_0
              replace H := let_hid H
              obtain ⟨t_44, ht_44, H⟩ := H
              replace H := bind_hid H
              obtain ⟨t_45, qt_45, H⟩ := H
              go_wp2_with fail
              go_at_call 25
              refine (Go.Proofs.Ythdmmoameoafmaa.GsL1In.C (t_38) (0) (t_44)  _    qt_45).mono ?_
              rintro e_t_45 wt_45 ⟨rfl, bt_45⟩
              have HBwt_45 := Lib.hid (Below.step HBwt_34.out bt_45)
              replace kb_0_0__14 := cell_below bt_45 kb_0_0__14
              replace ct_14_0 := cell_below bt_45 ct_14_0
              replace ct_41_0 := cell_below bt_45 ct_41_0
              replace Oout_9l0 := Lib.hid (own_below Oout_9l0.out bt_45)
              clear bt_45
              replace H := app_hid H
              replace H := join_hid H
              cases t_45 with
              | false =>
                replace H := ite_f H
                replace H := app_hid H
                replace H := ite_f H
                unfold j0 at H
                replace H := guard_hid H
                obtain ⟨hl_t_69, H⟩ := H
                replace H := let_hid H
                obtain ⟨t_69, ht_69, H⟩ := H
                have ct_69 := cat_rule (P := Try.prog) ht_69 hl_t_69
                clear hl_t_69
                have hht_69 := Lib.hid ht_69
                clear ht_69
                replace H := let_hid H
                obtain ⟨t_72, ht_72, H⟩ := H
                obtain rfl := ht_24.symm.trans ht_72
                replace H := app_hid H
                go_wp2_with fail
                go_roundg m1
                case measure => omega
                case rel => exact ⟨_, _, rfl, rfl, H, HBwt_45, kb_0_0__14, Oout_9l0⟩
              | true =>
                replace H := ite_t H
                replace H := let_hid H
                obtain ⟨t_49, ht_49, H⟩ := H
                have kt_49 : (t_25.toList == [46]) = t_49 := by rw [← ht_49]; first | rfl | decide | simp
                replace H := app_hid H
                cases t_49 with
                | false =>
                  replace H := ite_f H
                  unfold j0 at H
                  replace H := guard_hid H
                  obtain ⟨hl_t_69, H⟩ := H
                  replace H := let_hid H
                  obtain ⟨t_69, ht_69, H⟩ := H
                  have ct_69 := cat_rule (P := Try.prog) ht_69 hl_t_69
                  clear hl_t_69
                  have hht_69 := Lib.hid ht_69
                  clear ht_69
                  replace H := let_hid H
                  obtain ⟨t_72, ht_72, H⟩ := H
                  obtain rfl := ht_24.symm.trans ht_72
                  replace H := app_hid H
                  go_wp2_with fail
                  go_roundg m1
                  case measure => omega
                  case rel => exact ⟨_, _, rfl, rfl, H, HBwt_45, kb_0_0__14, Oout_9l0⟩
                | true =>
                  replace H := ite_t H
                  replace H := let_hid H
                  obtain ⟨t_55, ht_55, H⟩ := H
                  obtain rfl := ht_29.symm.trans ht_55
                  replace H := idx_hid H
                  obtain ⟨nt_56, yt_56, et_56, lt_56, gt_56, H⟩ := H
                  subst et_56
                  obtain ⟨ab_t_56, ao_t_56, zt_56, At_56, z_t_56, ct_56_0⟩ := strs_at M1_0.out lt_56
                  obtain rfl := Option.some.inj (gt_56.out.symm.trans z_t_56)
                  simp only [Option.some.injEq, Addr.mk.injEq] at At_56
                  obtain ⟨rfl, rfl, _⟩ := At_56
                  have ltt_56 := cell_lt ct_56_0
                  replace ct_56_0 := cell_below HBwt_45.out ct_56_0
                  clear z_t_56
                  have b0t_56 : (0 : Int) ≤ (nt_56 : Int) := by omega
                  have b1t_56 : (nt_56 : Int) < ((b_rows.length : Nat) : Int) := by omega
                  have b2t_56 : ((nt_56 : Int)).toNat = nt_56 := by omega
                  replace H := let_hid H
                  obtain ⟨t_60, ht_60, H⟩ := H
                  obtain rfl := ht_38.symm.trans ht_60
                  replace H := let_hid H
                  obtain ⟨t_63, ht_63, H⟩ := H
                  obtain rfl := ht_38.symm.trans ht_63
                  replace H := let_hid H
                  obtain ⟨t_64, ht_64, H⟩ := H
                  replace H := guard_hid H
                  obtain ⟨hl_t_65, H⟩ := H
                  replace H := let_hid H
                  obtain ⟨t_65, ht_65, H⟩ := H
                  have ct_65 := slice_both (P := Try.prog) (t := 9) (k := .i64) (k' := .i64) Try.underlying9 ht_65 hl_t_65
                  clear hl_t_65
                  have hht_65 := Lib.hid ht_65
                  clear ht_65
                  unfold j0 at H
                  replace H := guard_hid H
                  obtain ⟨hl_t_69, H⟩ := H
                  replace H := let_hid H
                  obtain ⟨t_69, ht_69, H⟩ := H
                  have ct_69 := cat_rule (P := Try.prog) ht_69 hl_t_69
                  clear hl_t_69
                  have hht_69 := Lib.hid ht_69
                  clear ht_69
                  replace H := let_hid H
                  obtain ⟨t_72, ht_72, H⟩ := H
                  obtain rfl := ht_24.symm.trans ht_72
                  replace H := app_hid H
                  go_wp2_with fail
                  go_roundg m1
                  case measure => omega
                  case rel => exact ⟨_, _, rfl, rfl, H, HBwt_45, kb_0_0__14, Oout_9l0⟩
end Go.Proofs.Ythdmmoameoafmaa.GsL4Lay

/- loop.example/g01062/spec.LayBlock as a plain function, and the contract of the program's: where the plain one has an answer, the program has it. Conditions: slices read as lists. -/
namespace Go.Proofs.Ythdmmoameoafmaa.GsLayBlock
set_option linter.unusedVariables false
set_option linter.unusedSimpArgs false
open Go.RowKit
open Go.Proofs.Ythdmmoameoafmaa.Rowed Go.Proofs.Ythdmmoameoafmaa.Turn Go.Proofs.Ythdmmoameoafmaa.Aid Go.Proofs.Ythdmmoameoafmaa.GoP Go.Proofs.Ythdmmoameoafmaa.GoM

def P (fuel : Nat) (sheet : (List ByteArray)) (b_rows : (List ByteArray)) (row_2 : Int) (col : Int) : Option ((List ByteArray) × Bool) :=
  Option.bind (Go.Proofs.Ythdmmoameoafmaa.GsIsSheet.P fuel sheet) fun (t_4 : Bool) =>
  letK (!t_4) fun (t_5 : Bool) =>
  joinK (fun (t_10 : Bool) =>
  joinK (fun (t_18 : Bool) =>
  iteK t_18
  (some (([] : List ByteArray), false))
  (Option.bind (Go.Proofs.Ythdmmoameoafmaa.GsL4Lay.P fuel sheet b_rows row_2 col) fun (t_26 : (List ByteArray)) =>
  some (t_26, true))) fun jt_18 => iteK t_10 (appK jt_18 true) (Option.bind (Go.Proofs.Ythdmmoameoafmaa.GsL4Fits.P fuel sheet b_rows row_2 col) fun (t_16 : Bool) =>
  letK (!t_16) fun (t_17 : Bool) =>
  appK jt_18 t_17)) fun jt_10 => iteK t_5 (appK jt_10 true) (Option.bind (Go.Proofs.Ythdmmoameoafmaa.GsIsBlock.P fuel b_rows) fun (t_8 : Bool) =>
  letK (!t_8) fun (t_9 : Bool) =>
  appK jt_10 t_9)

set_option maxRecDepth 100000 in
set_option maxHeartbeats 2000000 in
theorem C (fuel : Nat) (sheet : (List ByteArray)) (b_rows : (List ByteArray)) (row_2 : Int) (col : Int) (A0 : Option Addr) (c0 : Nat) (A1_0 : Option Addr) (c1_0 : Nat)  (w : World) (M0 : Hid (Cells w 1 A0 sheet.length (sheet.map Value.string))) (N0 : Hid (sheet.length ≤ 9223372036854775807)) (M1_0 : Hid (Cells w 1 A1_0 b_rows.length (b_rows.map Value.string))) (N1_0 : Hid (b_rows.length ≤ 9223372036854775807))  {r0 : (List ByteArray)} {r1 : Bool} (H : Hid (P fuel sheet b_rows row_2 col = some (r0, r1))) :
    Calls Try.prog 6 #[.slice A0 sheet.length c0, .agg #[.slice A1_0 b_rows.length c1_0], .int .i64 row_2, .int .i64 col] w (fun e w' => ∃ A_r0 c_r0, e = .returned (.tuple #[.slice A_r0 r0.length c_r0, .bool r1]) ∧ w'.ownsRow w.heap.size 9 1 (.slice A_r0 r0.length c_r0) r0.length (r0.map Value.string) ∧ Below w.heap.size w w') := by
  have HB := Lib.hid (Below.refl w.heap.size w)
  unfold P at H
  have N0o := N0.out
  have N1_0o := N1_0.out
  go_enter Try.func6, Try.ntmps6
  obtain ⟨w_b_0, hw_b_0⟩ : ∃ x, w.alloc (.cells #[.slice A1_0 b_rows.length c1_0] 30) = x := ⟨_, rfl⟩
  have bw_b_0 : Below w.heap.size w w_b_0 := by rw [← hw_b_0]; exact (Below.refl _ _).alloc (Nat.le_refl _) _
  have HBw_b_0 := Lib.hid (Below.step HB.out bw_b_0)
  clear bw_b_0
  have kb_0_0 : w_b_0.cell? ⟨w.heap.size, 0, none⟩ = some (.slice A1_0 b_rows.length c1_0) := by rw [← hw_b_0]; exact box_new _ _ _ 0 _ rfl
  replace H := bind_hid H
  obtain ⟨t_4, qt_4, H⟩ := H
  go_wp2_with fail
  go_at_call 15
  refine (Go.Proofs.Ythdmmoameoafmaa.GsIsSheet.C fuel (sheet) A0 c0 _   (Lib.hid (Cells.below M0.out HBw_b_0.out)) N0 qt_4).mono ?_
  rintro e_t_4 wt_4 ⟨rfl, bt_4⟩
  have HBwt_4 := Lib.hid (Below.step HBw_b_0.out bt_4)
  replace kb_0_0 := cell_below bt_4 kb_0_0
  clear bt_4
  cases t_4 with
  | false =>
    replace H := let_hid H
    obtain ⟨t_5, ht_5, H⟩ := H
    obtain rfl : t_5 = true := ht_5.symm
    replace H := join_hid H
    replace H := ite_t H
    replace H := app_hid H
    replace H := join_hid H
    replace H := ite_t H
    replace H := app_hid H
    replace H := ite_t H
    obtain ⟨w_t_19, hw_t_19⟩ : ∃ x, wt_4.alloc (.cells #[] 9) = x := ⟨_, rfl⟩
    have bw_t_19 : Below wt_4.heap.size wt_4 w_t_19 := by rw [← hw_t_19]; exact (Below.refl _ _).alloc (Nat.le_refl _) _
    have Ot_19 : Hid (w_t_19.ownsRow w.heap.size 9 1 (.slice (some ⟨wt_4.heap.size, 0, none⟩) 0 0) 0 []) := Lib.hid (by rw [← hw_t_19]; exact own_empty HBwt_4.out.size)
    have Dt_19_b_0 := Lib.hid (apart_box kb_0_0)
    have HBw_t_19 := Lib.hid (Below.step HBwt_4.out bw_t_19)
    have kb_0_0__17 := cell_below bw_t_19 kb_0_0
    clear bw_t_19
    cases ret_hid H
    go_wp2_with fail
    go_ret2
    exact ⟨(some ⟨wt_4.heap.size, 0, none⟩), 0, rfl, Ot_19.out, HBw_t_19.out⟩
  | true =>
    replace H := let_hid H
    obtain ⟨t_5, ht_5, H⟩ := H
    obtain rfl : t_5 = false := ht_5.symm
    replace H := join_hid H
    replace H := ite_f H
    replace H := bind_hid H
    obtain ⟨t_8, qt_8, H⟩ := H
    go_wp2_with fail
    go_at_call 16
    refine (Go.Proofs.Ythdmmoameoafmaa.GsIsBlock.C fuel (b_rows) A1_0 c1_0 _   (Lib.hid (Cells.below M1_0.out HBwt_4.out)) N1_0 qt_8).mono ?_
    rintro e_t_8 wt_8 ⟨rfl, bt_8⟩
    have HBwt_8 := Lib.hid (Below.step HBwt_4.out bt_8)
    replace kb_0_0 := cell_below bt_8 kb_0_0
    clear bt_8
    cases t_8 with
    | false =>
      replace H := let_hid H
      obtain ⟨t_9, ht_9, H⟩ := H
      obtain rfl : t_9 = true := ht_9.symm
      replace H := app_hid H
      replace H := join_hid H
      replace H := ite_t H
      replace H := app_hid H
      replace H := ite_t H
      obtain ⟨w_t_19, hw_t_19⟩ : ∃ x, wt_8.alloc (.cells #[] 9) = x := ⟨_, rfl⟩
      have bw_t_19 : Below wt_8.heap.size wt_8 w_t_19 := by rw [← hw_t_19]; exact (Below.refl _ _).alloc (Nat.le_refl _) _
      have Ot_19 : Hid (w_t_19.ownsRow w.heap.size 9 1 (.slice (some ⟨wt_8.heap.size, 0, none⟩) 0 0) 0 []) := Lib.hid (by rw [← hw_t_19]; exact own_empty HBwt_8.out.size)
      have Dt_19_b_0 := Lib.hid (apart_box kb_0_0)
      have HBw_t_19 := Lib.hid (Below.step HBwt_8.out bw_t_19)
      have kb_0_0__18 := cell_below bw_t_19 kb_0_0
      clear bw_t_19
      cases ret_hid H
      go_wp2_with fail
      go_ret2
      exact ⟨(some ⟨wt_8.heap.size, 0, none⟩), 0, rfl, Ot_19.out, HBw_t_19.out⟩
    | true =>
      replace H := let_hid H
      obtain ⟨t_9, ht_9, H⟩ := H
      obtain rfl : t_9 = false := ht_9.symm
      replace H := app_hid H
      replace H := join_hid H
      replace H := ite_f H
      replace H := bind_hid H
      obtain ⟨t_16, qt_16, H⟩ := H
      go_wp2_with fail
      go_at_call 17
      refine (Go.Proofs.Ythdmmoameoafmaa.GsL4Fits.C fuel (sheet) (b_rows) (row_2) (col) A0 c0 A1_0 c1_0 _   (Lib.hid (Cells.below M0.out HBwt_8.out)) N0 (Lib.hid (Cells.below M1_0.out HBwt_8.out)) N1_0 qt_16).mono ?_
      rintro e_t_16 wt_16 ⟨rfl, bt_16⟩
      have HBwt_16 := Lib.hid (Below.step HBwt_8.out bt_16)
      replace kb_0_0 := cell_below bt_16 kb_0_0
      clear bt_16
      cases t_16 with
      | false =>
        replace H := let_hid H
        obtain ⟨t_17, ht_17, H⟩ := H
        obtain rfl : t_17 = true := ht_17.symm
        replace H := app_hid H
        replace H := ite_t H
        obtain ⟨w_t_19, hw_t_19⟩ : ∃ x, wt_16.alloc (.cells #[] 9) = x := ⟨_, rfl⟩
        have bw_t_19 : Below wt_16.heap.size wt_16 w_t_19 := by rw [← hw_t_19]; exact (Below.refl _ _).alloc (Nat.le_refl _) _
        have Ot_19 : Hid (w_t_19.ownsRow w.heap.size 9 1 (.slice (some ⟨wt_16.heap.size, 0, none⟩) 0 0) 0 []) := Lib.hid (by rw [← hw_t_19]; exact own_empty HBwt_16.out.size)
        have Dt_19_b_0 := Lib.hid (apart_box kb_0_0)
        have HBw_t_19 := Lib.hid (Below.step HBwt_16.out bw_t_19)
        have kb_0_0__19 := cell_below bw_t_19 kb_0_0
        clear bw_t_19
        cases ret_hid H
        go_wp2_with fail
        go_ret2
        exact ⟨(some ⟨wt_16.heap.size, 0, none⟩), 0, rfl, Ot_19.out, HBw_t_19.out⟩
      | true =>
        replace H := let_hid H
        obtain ⟨t_17, ht_17, H⟩ := H
        obtain rfl : t_17 = false := ht_17.symm
        replace H := app_hid H
        replace H := ite_f H
        replace H := bind_hid H
        obtain ⟨t_26, qt_26, H⟩ := H
        go_wp2_with fail
        go_at_call 18
        refine (Go.Proofs.Ythdmmoameoafmaa.GsL4Lay.C fuel (sheet) (b_rows) (row_2) (col) A0 c0 A1_0 c1_0 _   (Lib.hid (Cells.below M0.out HBwt_16.out)) N0 (Lib.hid (Cells.below M1_0.out HBwt_16.out)) N1_0 qt_26).mono ?_
        rintro e_t_26 wt_26 ⟨At_26, ct_26, rfl, ot_26, bt_26⟩
        have Dt_26_b_0 := Lib.hid (apart_callbox ot_26 kb_0_0)
        have Ot_26 := Lib.hid (own_lower ot_26 HBwt_16.out.size)
        clear ot_26
        have HBwt_26 := Lib.hid (Below.step HBwt_16.out bt_26)
        replace kb_0_0 := cell_below bt_26 kb_0_0
        clear bt_26
        cases ret_hid H
        go_wp2_with fail
        go_ret2
        exact ⟨At_26, ct_26, rfl, Ot_26.out, HBwt_26.out⟩
end Go.Proofs.Ythdmmoameoafmaa.GsLayBlock

/- loop.example/g01062/impl.within as a plain function, and the contract of the program's: where the plain one has an answer, the program has it. Conditions: slices read as lists. -/
namespace Go.Proofs.Ythdmmoameoafmaa.GiWithin
set_option linter.unusedVariables false
set_option linter.unusedSimpArgs false
open Go.RowKit
open Go.Proofs.Ythdmmoameoafmaa.Rowed Go.Proofs.Ythdmmoameoafmaa.Turn Go.Proofs.Ythdmmoameoafmaa.Aid Go.Proofs.Ythdmmoameoafmaa.GoP Go.Proofs.Ythdmmoameoafmaa.GoM

def P (n_0 : Int) (low : Int) (high : Int) : Option (Bool) :=
  letK (decide (low ≤ n_0)) fun (t_3 : Bool) =>
  joinK (fun (t_8 : Bool) =>
  some t_8) fun jt_8 => iteK t_3 (letK (decide (n_0 ≤ high)) fun (t_7 : Bool) =>
  appK jt_8 t_7) (appK jt_8 false)

set_option maxRecDepth 100000 in
set_option maxHeartbeats 2000000 in
theorem C (n_0 : Int) (low : Int) (high : Int)   (w : World)   {r : Bool} (H : Hid (P n_0 low high = some r)) :
    Calls Try.prog 27 #[.int .i64 n_0, .int .i64 low, .int .i64 high] w (Gives (.bool r) w) := by
  have HB := Lib.hid (Below.refl w.heap.size w)
  unfold P at H
  go_enter Try.func27, Try.ntmps27
  replace H := let_hid H
  obtain ⟨t_3, ht_3, H⟩ := H
  replace H := join_hid H
  cases t_3 with
  | false =>
    replace H := ite_f H
    replace H := app_hid H
    obtain rfl := ret_hid H
    go_wp2_with fail
    go_ret
    exact ⟨rfl, HB.out⟩
  | true =>
    replace H := ite_t H
    replace H := let_hid H
    obtain ⟨t_7, ht_7, H⟩ := H
    replace H := app_hid H
    obtain rfl := ret_hid H
    go_wp2_with fail
    go_ret
    exact ⟨rfl, HB.out⟩

set_option maxRecDepth 100000 in
set_option maxHeartbeats 2000000 in
theorem C0 (n_0 : Int) (low : Int) (high : Int)   (w : World)   {r : Bool} (H : Hid (P n_0 low high = some r)) :
    Calls Try.prog 27 #[.int .i64 n_0, .int .i64 low, .int .i64 high] w (fun e w'' => e = .returned (.bool r) ∧ w'' = w) := by
  have HB := Lib.hid (Below.refl w.heap.size w)
  unfold P at H
  go_enter Try.func27, Try.ntmps27
  replace H := let_hid H
  obtain ⟨t_3, ht_3, H⟩ := H
  replace H := join_hid H
  cases t_3 with
  | false =>
    replace H := ite_f H
    replace H := app_hid H
    obtain rfl := ret_hid H
    go_wp2_with fail
    go_ret
    exact ⟨rfl, rfl⟩
  | true =>
    replace H := ite_t H
    replace H := let_hid H
    obtain ⟨t_7, ht_7, H⟩ := H
    replace H := app_hid H
    obtain rfl := ret_hid H
    go_wp2_with fail
    go_ret
    exact ⟨rfl, rfl⟩
end Go.Proofs.Ythdmmoameoafmaa.GiWithin

/- loop.example/g01062/impl.isLetter as a plain function, and the contract of the program's: where the plain one has an answer, the program has it. Conditions: slices read as lists. -/
namespace Go.Proofs.Ythdmmoameoafmaa.GiIsLetter
set_option linter.unusedVariables false
set_option linter.unusedSimpArgs false
open Go.RowKit
open Go.Proofs.Ythdmmoameoafmaa.Rowed Go.Proofs.Ythdmmoameoafmaa.Turn Go.Proofs.Ythdmmoameoafmaa.Aid Go.Proofs.Ythdmmoameoafmaa.GoP Go.Proofs.Ythdmmoameoafmaa.GoM

def P (c : Int) : Option (Bool) :=
  letK (decide (97 ≤ c)) fun (t_2 : Bool) =>
  joinK (fun (t_6 : Bool) =>
  some t_6) fun jt_6 => iteK t_2 (letK (decide (c ≤ 122)) fun (t_5 : Bool) =>
  appK jt_6 t_5) (appK jt_6 false)

set_option maxRecDepth 100000 in
set_option maxHeartbeats 2000000 in
theorem C (c : Int)   (w : World)   {r : Bool} (H : Hid (P c = some r)) :
    Calls Try.prog 30 #[.int .u8 c] w (Gives (.bool r) w) := by
  have HB := Lib.hid (Below.refl w.heap.size w)
  unfold P at H
  go_enter Try.func30, Try.ntmps30
  replace H := let_hid H
  obtain ⟨t_2, ht_2, H⟩ := H
  replace H := join_hid H
  cases t_2 with
  | false =>
    replace H := ite_f H
    replace H := app_hid H
    obtain rfl := ret_hid H
    go_wp2_with fail
    go_ret
    exact ⟨rfl, HB.out⟩
  | true =>
    replace H := ite_t H
    replace H := let_hid H
    obtain ⟨t_5, ht_5, H⟩ := H
    replace H := app_hid H
    obtain rfl := ret_hid H
    go_wp2_with fail
    go_ret
    exact ⟨rfl, HB.out⟩

set_option maxRecDepth 100000 in
set_option maxHeartbeats 2000000 in
theorem C0 (c : Int)   (w : World)   {r : Bool} (H : Hid (P c = some r)) :
    Calls Try.prog 30 #[.int .u8 c] w (fun e w'' => e = .returned (.bool r) ∧ w'' = w) := by
  have HB := Lib.hid (Below.refl w.heap.size w)
  unfold P at H
  go_enter Try.func30, Try.ntmps30
  replace H := let_hid H
  obtain ⟨t_2, ht_2, H⟩ := H
  replace H := join_hid H
  cases t_2 with
  | false =>
    replace H := ite_f H
    replace H := app_hid H
    obtain rfl := ret_hid H
    go_wp2_with fail
    go_ret
    exact ⟨rfl, rfl⟩
  | true =>
    replace H := ite_t H
    replace H := let_hid H
    obtain ⟨t_5, ht_5, H⟩ := H
    replace H := app_hid H
    obtain rfl := ret_hid H
    go_wp2_with fail
    go_ret
    exact ⟨rfl, rfl⟩
end Go.Proofs.Ythdmmoameoafmaa.GiIsLetter

/- loop.example/g01062/impl.areRows as a plain function, and the contract of the program's: where the plain one has an answer, the program has it. Conditions: slices read as lists. -/
namespace Go.Proofs.Ythdmmoameoafmaa.GiAreRows
set_option linter.unusedVariables false
set_option linter.unusedSimpArgs false
open Go.RowKit
open Go.Proofs.Ythdmmoameoafmaa.Rowed Go.Proofs.Ythdmmoameoafmaa.Turn Go.Proofs.Ythdmmoameoafmaa.Aid Go.Proofs.Ythdmmoameoafmaa.GoP Go.Proofs.Ythdmmoameoafmaa.GoM

def l1 (yt_20 : ByteArray) (k1 : Nat) (s : Unit) (nx1 bk1 : Unit → Option (Bool)) : Option (Bool) :=
  
  Option.bind (idx yt_20.toList (k1 : Int)) fun (yt_39 : UInt8) =>
  letK ((yt_39.toNat : Int)) fun (t_39 : Int) =>
  letK (t_39 != 46) fun (t_40 : Bool) =>
  joinK (fun (t_47 : Bool) =>
  iteK t_47
  (some false)
  (appK nx1 ())) fun jt_47 => iteK t_40 (Option.bind (idx yt_20.toList (k1 : Int)) fun (yt_44 : UInt8) =>
  letK ((yt_44.toNat : Int)) fun (t_44 : Int) =>
  Option.bind (Go.Proofs.Ythdmmoameoafmaa.GiIsLetter.P t_44) fun (t_45 : Bool) =>
  letK (!t_45) fun (t_46 : Bool) =>
  appK jt_47 t_46) (appK jt_47 false)

def e1 (nx0 : (Unit) → Option (Bool)) (s : Unit) : Option (Bool) :=
  
  appK nx0 ()

def l0 (rows : (List ByteArray)) (k0 : Nat) (s : Unit) (nx0 bk0 : Unit → Option (Bool)) : Option (Bool) :=
  
  Option.bind (idx rows (k0 : Int)) fun (yt_20 : ByteArray) =>
  Option.bind (idx rows 0) fun (yt_26 : ByteArray) =>
  letK ((yt_20.size : Int) != (yt_26.size : Int)) fun (t_29 : Bool) =>
  iteK t_29
  (some false)
  (guardK (yt_20.size ≤ 9223372036854775807) <|
  cntK (l1 yt_20) (yt_20.size) 0 () (e1 nx0))

def e0  (s : Unit) : Option (Bool) :=
  
  some true

def P (rows : (List ByteArray)) (most : Int) : Option (Bool) :=
  Option.bind (Go.Proofs.Ythdmmoameoafmaa.GiWithin.P (rows.length : Int) 1 most) fun (t_4 : Bool) =>
  letK (!t_4) fun (t_5 : Bool) =>
  joinK (fun (t_14 : Bool) =>
  iteK t_14
  (some false)
  (cntK (l0 rows) (rows.length) 0 () (e0 ))) fun jt_14 => iteK t_5 (appK jt_14 true) (Option.bind (idx rows 0) fun (yt_8 : ByteArray) =>
  Option.bind (Go.Proofs.Ythdmmoameoafmaa.GiWithin.P (yt_8.size : Int) 1 most) fun (t_12 : Bool) =>
  letK (!t_12) fun (t_13 : Bool) =>
  appK jt_14 t_13)

set_option maxRecDepth 100000 in
set_option maxHeartbeats 2000000 in
theorem C (rows : (List ByteArray)) (most : Int) (A0 : Option Addr) (c0 : Nat)  (w : World) (M0 : Hid (Cells w 1 A0 rows.length (rows.map Value.string))) (N0 : Hid (rows.length ≤ 9223372036854775807))  {r : Bool} (H : Hid (P rows most = some r)) :
    Calls Try.prog 26 #[.slice A0 rows.length c0, .int .i64 most] w (Gives (.bool r) w) := by
  have HB := Lib.hid (Below.refl w.heap.size w)
  unfold P at H
  have N0o := N0.out
  go_enter Try.func26, Try.ntmps26
  replace H := bind_hid H
  obtain ⟨t_4, qt_4, H⟩ := H
  go_wp2_with fail
  go_at_call 27
  refine (Go.Proofs.Ythdmmoameoafmaa.GiWithin.C ((rows.length : Int)) (1) (most)  _    qt_4).mono ?_
  rintro e_t_4 wt_4 ⟨rfl, bt_4⟩
  have HBwt_4 := Lib.hid (Below.step HB.out bt_4)
  clear bt_4
  cases t_4 with
  | false =>
    replace H := let_hid H
    obtain ⟨t_5, ht_5, H⟩ := H
    obtain rfl : t_5 = true := ht_5.symm
    replace H := join_hid H
    replace H := ite_t H
    replace H := app_hid H
    replace H := ite_t H
    obtain rfl := ret_hid H
    go_wp2_with fail
    go_ret
    exact ⟨rfl, HBwt_4.out⟩
  | true =>
    replace H := let_hid H
    obtain ⟨t_5, ht_5, H⟩ := H
    obtain rfl : t_5 = false := ht_5.symm
    replace H := join_hid H
    replace H := ite_f H
    replace H := idx_hid H
    obtain ⟨nt_8, yt_8, et_8, lt_8, gt_8, H⟩ := H
    obtain rfl : 0 = nt_8 := by omega
    clear et_8
    obtain ⟨ab_t_8, ao_t_8, zt_8, At_8, z_t_8, ct_8_0⟩ := strs_at M0.out lt_8
    obtain rfl := Option.some.inj (gt_8.out.symm.trans z_t_8)
    subst At_8
    have ltt_8 := cell_lt ct_8_0
    replace ct_8_0 := cell_below HBwt_4.out ct_8_0
    clear z_t_8
    have b1t_8 : (0 : Int) < ((rows.length : Nat) : Int) := by omega
    have b3t_8 : 0 < rows.length := by omega
    try simp only [Nat.zero_mul, Nat.add_zero, Nat.zero_add, Nat.reduceMul] at ct_8_0
    replace H := bind_hid H
    obtain ⟨t_12, qt_12, H⟩ := H
    go_wp2_with fail
    go_at_call 27
    refine (Go.Proofs.Ythdmmoameoafmaa.GiWithin.C ((yt_8.size : Int)) (1) (most)  _    qt_12).mono ?_
    rintro e_t_12 wt_12 ⟨rfl, bt_12⟩
    have HBwt_12 := Lib.hid (Below.step HBwt_4.out bt_12)
    replace ct_8_0 := cell_below bt_12 ct_8_0
    clear bt_12
    cases t_12 with
    | false =>
      replace H := let_hid H
      obtain ⟨t_13, ht_13, H⟩ := H
      obtain rfl : t_13 = true := ht_13.symm
      replace H := app_hid H
      replace H := ite_t H
      obtain rfl := ret_hid H
      go_wp2_with fail
      go_ret
      exact ⟨rfl, HBwt_12.out⟩
    | true =>
      replace H := let_hid H
      obtain ⟨t_13, ht_13, H⟩ := H
      obtain rfl : t_13 = false := ht_13.symm
      replace H := app_hid H
      replace H := ite_f H
      go_wp2_with fail
      go_loopg [24] (rows.length) (fun m_ v24_ wr => ∃ (k0 : Nat) , k0 + m_ = rows.length ∧ v24_ = .int .i64 (k0 : Int) ∧ Hid (cntK (l0 rows) m_ k0 () (e0 ) = some r) ∧ Hid (Below w.heap.size w wr))
      case atStart => exact ⟨0, by omega, rfl, H, HBwt_12⟩
      case round =>
        obtain ⟨k0, hkm0, rfl, H, HBwr0⟩ := hrel
        rename World => wr0
        cases gk with
        | zero =>
          obtain rfl : k0 = rows.length := by omega
          have hc0 : decide (((rows.length : Nat) : Int) < ((rows.length : Nat) : Int)) = false := by simp
          replace H := cnt_zero H
          unfold e0 at H
          obtain rfl := ret_hid H
          go_wp2_with fail
          go_ret
          exact ⟨rfl, HBwr0.out⟩
        | succ m0 =>
          have hlt0 : k0 < rows.length := by omega
          have hc0 : decide ((k0 : Int) < ((rows.length : Nat) : Int)) = true := by simp; omega
          replace H := cnt_succ H
          unfold l0 at H
          replace H := idx_hid H
          obtain ⟨nt_20, yt_20, et_20, lt_20, gt_20, H⟩ := H
          obtain rfl : k0 = nt_20 := by omega
          clear et_20
          obtain ⟨ab_t_20, ao_t_20, zt_20, At_20, z_t_20, ct_20_0⟩ := strs_at M0.out lt_20
          obtain rfl := Option.some.inj (gt_20.out.symm.trans z_t_20)
          simp only [Option.some.injEq, Addr.mk.injEq] at At_20
          obtain ⟨rfl, rfl, _⟩ := At_20
          have ltt_20 := cell_lt ct_20_0
          replace ct_20_0 := cell_below HBwr0.out ct_20_0
          clear z_t_20
          have b0t_20 : (0 : Int) ≤ (k0 : Int) := by omega
          have b1t_20 : (k0 : Int) < ((rows.length : Nat) : Int) := by omega
          have b2t_20 : ((k0 : Int)).toNat = k0 := by omega
          replace H := idx_hid H
          obtain ⟨nt_26, yt_26, et_26, lt_26, gt_26, H⟩ := H
          obtain rfl : 0 = nt_26 := by omega
          clear et_26
          obtain ⟨ab_t_26, ao_t_26, zt_26, At_26, z_t_26, ct_26_0⟩ := strs_at M0.out lt_26
          obtain rfl := Option.some.inj (gt_26.out.symm.trans z_t_26)
          simp only [Option.some.injEq, Addr.mk.injEq] at At_26
          obtain ⟨rfl, rfl, _⟩ := At_26
          have ltt_26 := cell_lt ct_26_0
          replace ct_26_0 := cell_below HBwr0.out ct_26_0
          clear z_t_26
          have b1t_26 : (0 : Int) < ((rows.length : Nat) : Int) := by omega
          have b3t_26 : 0 < rows.length := by omega
          try simp only [Nat.zero_mul, Nat.add_zero, Nat.zero_add, Nat.reduceMul] at ct_26_0
          replace H := let_hid H
          obtain ⟨t_29, ht_29, H⟩ := H
          cases t_29 with
          | false =>
            have Hht_29 : Hid (yt_20.size = yt_26.size) := Lib.hid (by have := bne_eq_false_iff_eq.1 ht_29; omega)
            have nht_29 : (yt_20.size == yt_26.size) = true := beq_iff_eq.2 Hht_29.out
            replace H := ite_f H
            replace H := guard_hid H
            obtain ⟨hg1, H⟩ := H
            go_wp2_with fail
            go_loopg [37] (yt_20.size) (fun m_ v37_ wr => ∃ (k1 : Nat) , k1 + m_ = yt_20.size ∧ v37_ = .int .i64 (k1 : Int) ∧ Hid (cntK (l1 yt_20) m_ k1 () (e1 (fun s' => cntK (l0 rows) m0 (k0 + 1) s' (e0 ))) = some r) ∧ Hid (Below w.heap.size w wr))
            case atStart => exact ⟨0, by omega, rfl, H, HBwr0⟩
            case round =>
              obtain ⟨k1, hkm1, rfl, H, HBwr1⟩ := hrel
              rename World => wr1
              cases gk with
              | zero =>
                obtain rfl : k1 = yt_20.size := by omega
                have hc1 : decide (((yt_20.size : Nat) : Int) < ((yt_20.size : Nat) : Int)) = false := by simp
                replace H := cnt_zero H
                unfold e1 at H
                replace H := app_hid H
                go_wp2_with fail
                go_roundg m0
                case measure => omega
                case rel => exact ⟨k0 + 1, by omega, by go_num, H, HBwr1⟩
              | succ m1 =>
                have hlt1 : k1 < yt_20.size := by omega
                have hc1 : decide ((k1 : Int) < ((yt_20.size : Nat) : Int)) = true := by simp; omega
                replace H := cnt_succ H
                unfold l1 at H
                replace H := idx_hid H
                obtain ⟨nt_39, yt_39, et_39, lt_39, gt_39, H⟩ := H
                obtain rfl : k1 = nt_39 := by omega
                clear et_39
                have rt_39 := byte_rule lt_39 gt_39.out
                have b0t_39 : (0 : Int) ≤ (k1 : Int) := by omega
                have b1t_39 : (k1 : Int) < (yt_20.size : Int) := by have := size_list yt_20; omega
                have b2t_39 : ((k1 : Int)).toNat = k1 := by omega
                have b3t_39 : k1 < yt_20.size := by have := size_list yt_20; omega
                replace H := let_hid H
                obtain ⟨t_39, ht_39, H⟩ := H
                replace H := let_hid H
                obtain ⟨t_40, ht_40, H⟩ := H
                replace H := join_hid H
                cases t_40 with
                | false =>
                  replace H := ite_f H
                  replace H := app_hid H
                  replace H := ite_f H
                  replace H := app_hid H
                  go_wp2_with fail
                  go_roundg m1
                  case measure => omega
                  case rel => exact ⟨k1 + 1, by omega, by go_num, H, HBwr1⟩
                | true =>
                  replace H := ite_t H
                  replace H := idx_hid H
                  obtain ⟨nt_44, yt_44, et_44, lt_44, gt_44, H⟩ := H
                  obtain rfl : k1 = nt_44 := by omega
                  clear et_44
                  obtain rfl := Option.some.inj (gt_39.out.symm.trans gt_44.out)
                  clear gt_44 lt_44
                  replace H := let_hid H
                  obtain ⟨t_44, ht_44, H⟩ := H
                  obtain rfl := ht_39.symm.trans ht_44
                  replace H := bind_hid H
                  obtain ⟨t_45, qt_45, H⟩ := H
                  go_wp2_with fail
                  go_at_call 30
                  refine (Go.Proofs.Ythdmmoameoafmaa.GiIsLetter.C (t_39)  _    qt_45).mono ?_
                  rintro e_t_45 wt_45 ⟨rfl, bt_45⟩
                  have HBwt_45 := Lib.hid (Below.step HBwr1.out bt_45)
                  clear bt_45
                  cases t_45 with
                  | false =>
                    replace H := let_hid H
                    obtain ⟨t_46, ht_46, H⟩ := H
                    obtain rfl : t_46 = true := ht_46.symm
                    replace H := app_hid H
                    replace H := ite_t H
                    obtain rfl := ret_hid H
                    go_wp2_with fail
                    go_ret
                    exact ⟨rfl, HBwt_45.out⟩
                  | true =>
                    replace H := let_hid H
                    obtain ⟨t_46, ht_46, H⟩ := H
                    obtain rfl : t_46 = false := ht_46.symm
                    replace H := app_hid H
                    replace H := ite_f H
                    replace H := app_hid H
                    go_wp2_with fail
                    go_roundg m1
                    case measure => omega
                    case rel => exact ⟨k1 + 1, by omega, by go_num, H, HBwt_45⟩
          | true =>
            have nht_29 : ¬ (yt_20.size = yt_26.size) := by have := bne_iff_ne.1 ht_29; omega
            replace H := ite_t H
            obtain rfl := ret_hid H
            go_wp2_with fail
            go_ret
            exact ⟨rfl, HBwr0.out⟩
end Go.Proofs.Ythdmmoameoafmaa.GiAreRows

/- loop.example/g01062/impl.IsSheet as a plain function, and the contract of the program's: where the plain one has an answer, the program has it. Conditions: slices read as lists. -/
namespace Go.Proofs.Ythdmmoameoafmaa.GiIsSheet
set_option linter.unusedVariables false
set_option linter.unusedSimpArgs false
open Go.RowKit
open Go.Proofs.Ythdmmoameoafmaa.Rowed Go.Proofs.Ythdmmoameoafmaa.Turn Go.Proofs.Ythdmmoameoafmaa.Aid Go.Proofs.Ythdmmoameoafmaa.GoP Go.Proofs.Ythdmmoameoafmaa.GoM

def P (sheet : (List ByteArray)) : Option (Bool) :=
  Option.bind (Go.Proofs.Ythdmmoameoafmaa.GiAreRows.P sheet 5) fun (t_2 : Bool) =>
  some t_2

set_option maxRecDepth 100000 in
set_option maxHeartbeats 2000000 in
theorem C (sheet : (List ByteArray)) (A0 : Option Addr) (c0 : Nat)  (w : World) (M0 : Hid (Cells w 1 A0 sheet.length (sheet.map Value.string))) (N0 : Hid (sheet.length ≤ 9223372036854775807))  {r : Bool} (H : Hid (P sheet = some r)) :
    Calls Try.prog 19 #[.slice A0 sheet.length c0] w (Gives (.bool r) w) := by
  have HB := Lib.hid (Below.refl w.heap.size w)
  unfold P at H
  have N0o := N0.out
  go_enter Try.func19, Try.ntmps19
  replace H := bind_hid H
  obtain ⟨t_2, qt_2, H⟩ := H
  go_wp2_with fail
  go_at_call 26
  refine (Go.Proofs.Ythdmmoameoafmaa.GiAreRows.C (sheet) (5) A0 c0 _   (Lib.hid (Cells.below M0.out HB.out)) N0 qt_2).mono ?_
  rintro e_t_2 wt_2 ⟨rfl, bt_2⟩
  have HBwt_2 := Lib.hid (Below.step HB.out bt_2)
  clear bt_2
  obtain rfl := ret_hid H
  go_wp2_with fail
  go_ret
  exact ⟨rfl, HBwt_2.out⟩
end Go.Proofs.Ythdmmoameoafmaa.GiIsSheet

/- loop.example/g01062/impl.IsBlock as a plain function, and the contract of the program's: where the plain one has an answer, the program has it. Conditions: slices read as lists. -/
namespace Go.Proofs.Ythdmmoameoafmaa.GiIsBlock
set_option linter.unusedVariables false
set_option linter.unusedSimpArgs false
open Go.RowKit
open Go.Proofs.Ythdmmoameoafmaa.Rowed Go.Proofs.Ythdmmoameoafmaa.Turn Go.Proofs.Ythdmmoameoafmaa.Aid Go.Proofs.Ythdmmoameoafmaa.GoP Go.Proofs.Ythdmmoameoafmaa.GoM

def P (b_rows : (List ByteArray)) : Option (Bool) :=
  Option.bind (Go.Proofs.Ythdmmoameoafmaa.GiAreRows.P b_rows 3) fun (t_4 : Bool) =>
  some t_4

set_option maxRecDepth 100000 in
set_option maxHeartbeats 2000000 in
theorem C (b_rows : (List ByteArray)) (A0_0 : Option Addr) (c0_0 : Nat)  (w : World) (M0_0 : Hid (Cells w 1 A0_0 b_rows.length (b_rows.map Value.string))) (N0_0 : Hid (b_rows.length ≤ 9223372036854775807))  {r : Bool} (H : Hid (P b_rows = some r)) :
    Calls Try.prog 20 #[.agg #[.slice A0_0 b_rows.length c0_0]] w (Gives (.bool r) w) := by
  have HB := Lib.hid (Below.refl w.heap.size w)
  unfold P at H
  have N0_0o := N0_0.out
  go_enter Try.func20, Try.ntmps20
  obtain ⟨w_b_0, hw_b_0⟩ : ∃ x, w.alloc (.cells #[.slice A0_0 b_rows.length c0_0] 30) = x := ⟨_, rfl⟩
  have bw_b_0 : Below w.heap.size w w_b_0 := by rw [← hw_b_0]; exact (Below.refl _ _).alloc (Nat.le_refl _) _
  have HBw_b_0 := Lib.hid (Below.step HB.out bw_b_0)
  clear bw_b_0
  have kb_0_0 : w_b_0.cell? ⟨w.heap.size, 0, none⟩ = some (.slice A0_0 b_rows.length c0_0) := by rw [← hw_b_0]; exact box_new _ _ _ 0 _ rfl
  replace H := bind_hid H
  obtain ⟨t_4, qt_4, H⟩ := H
  go_wp2_with fail
  go_at_call 26
  refine (Go.Proofs.Ythdmmoameoafmaa.GiAreRows.C (b_rows) (3) A0_0 c0_0 _   (Lib.hid (Cells.below M0_0.out HBw_b_0.out)) N0_0 qt_4).mono ?_
  rintro e_t_4 wt_4 ⟨rfl, bt_4⟩
  have HBwt_4 := Lib.hid (Below.step HBw_b_0.out bt_4)
  replace kb_0_0 := cell_below bt_4 kb_0_0
  clear bt_4
  obtain rfl := ret_hid H
  go_wp2_with fail
  go_ret
  exact ⟨rfl, HBwt_4.out⟩
end Go.Proofs.Ythdmmoameoafmaa.GiIsBlock

/- loop.example/g01062/impl.seenAt as a plain function, and the contract of the program's: where the plain one has an answer, the program has it. Conditions: slices read as lists. -/
namespace Go.Proofs.Ythdmmoameoafmaa.GiSeenAt
set_option linter.unusedVariables false
set_option linter.unusedSimpArgs false
open Go.RowKit
open Go.Proofs.Ythdmmoameoafmaa.Rowed Go.Proofs.Ythdmmoameoafmaa.Turn Go.Proofs.Ythdmmoameoafmaa.Aid Go.Proofs.Ythdmmoameoafmaa.GoP Go.Proofs.Ythdmmoameoafmaa.GoM

def P (rows : (List ByteArray)) (row_1 : Int) (col : Int) : Option (Int) :=
  letK (IntKind.i64.wrap ((rows.length : Int) - 1)) fun (t_4 : Int) =>
  Option.bind (Go.Proofs.Ythdmmoameoafmaa.GiWithin.P row_1 0 t_4) fun (t_5 : Bool) =>
  letK (!t_5) fun (t_6 : Bool) =>
  joinK (fun (t_17 : Bool) =>
  iteK t_17
  (some 46)
  (Option.bind (idx rows row_1) fun (yt_21 : ByteArray) =>
  Option.bind (idx yt_21.toList col) fun (yt_24 : UInt8) =>
  letK ((yt_24.toNat : Int)) fun (t_24 : Int) =>
  some t_24)) fun jt_17 => iteK t_6 (appK jt_17 true) (Option.bind (idx rows row_1) fun (yt_11 : ByteArray) =>
  letK (IntKind.i64.wrap ((yt_11.size : Int) - 1)) fun (t_14 : Int) =>
  Option.bind (Go.Proofs.Ythdmmoameoafmaa.GiWithin.P col 0 t_14) fun (t_15 : Bool) =>
  letK (!t_15) fun (t_16 : Bool) =>
  appK jt_17 t_16)

set_option maxRecDepth 100000 in
set_option maxHeartbeats 2000000 in
theorem C (rows : (List ByteArray)) (row_1 : Int) (col : Int) (A0 : Option Addr) (c0 : Nat)  (w : World) (M0 : Hid (Cells w 1 A0 rows.length (rows.map Value.string))) (N0 : Hid (rows.length ≤ 9223372036854775807))  {r : Int} (H : Hid (P rows row_1 col = some r)) :
    Calls Try.prog 31 #[.slice A0 rows.length c0, .int .i64 row_1, .int .i64 col] w (Gives (.int .u8 r) w) := by
  have HB := Lib.hid (Below.refl w.heap.size w)
  unfold P at H
  have N0o := N0.out
  go_enter Try.func31, Try.ntmps31
  replace H := let_hid H
  obtain ⟨t_4, ht_4, H⟩ := H
  try have hv_t_4 : (rows.length : Int) - 1 = t_4 := by rw [← ht_4]; exact (IntWalk.i64_in _ (by omega)).symm
  try have hv2_t_4 : IntKind.i64.wrap t_4 = t_4 := by rw [← hv_t_4]; exact IntWalk.i64_in _ (by omega)
  replace H := bind_hid H
  obtain ⟨t_5, qt_5, H⟩ := H
  go_wp2_with fail
  go_at_call 27
  refine (Go.Proofs.Ythdmmoameoafmaa.GiWithin.C (row_1) (0) (t_4)  _    qt_5).mono ?_
  rintro e_t_5 wt_5 ⟨rfl, bt_5⟩
  have HBwt_5 := Lib.hid (Below.step HB.out bt_5)
  clear bt_5
  cases t_5 with
  | false =>
    replace H := let_hid H
    obtain ⟨t_6, ht_6, H⟩ := H
    obtain rfl : t_6 = true := ht_6.symm
    replace H := join_hid H
    replace H := ite_t H
    replace H := app_hid H
    replace H := ite_t H
    obtain rfl := ret_hid H
    go_wp2_with fail
    go_ret
    exact ⟨rfl, HBwt_5.out⟩
  | true =>
    replace H := let_hid H
    obtain ⟨t_6, ht_6, H⟩ := H
    obtain rfl : t_6 = false := ht_6.symm
    replace H := join_hid H
    replace H := ite_f H
    replace H := idx_hid H
    obtain ⟨nt_11, yt_11, et_11, lt_11, gt_11, H⟩ := H
    subst et_11
    obtain ⟨ab_t_11, ao_t_11, zt_11, At_11, z_t_11, ct_11_0⟩ := strs_at M0.out lt_11
    obtain rfl := Option.some.inj (gt_11.out.symm.trans z_t_11)
    subst At_11
    have ltt_11 := cell_lt ct_11_0
    replace ct_11_0 := cell_below HBwt_5.out ct_11_0
    clear z_t_11
    have b0t_11 : (0 : Int) ≤ (nt_11 : Int) := by omega
    have b1t_11 : (nt_11 : Int) < ((rows.length : Nat) : Int) := by omega
    have b2t_11 : ((nt_11 : Int)).toNat = nt_11 := by omega
    replace H := let_hid H
    obtain ⟨t_14, ht_14, H⟩ := H
    replace H := bind_hid H
    obtain ⟨t_15, qt_15, H⟩ := H
    go_wp2_with fail
    go_at_call 27
    refine (Go.Proofs.Ythdmmoameoafmaa.GiWithin.C (col) (0) (t_14)  _    qt_15).mono ?_
    rintro e_t_15 wt_15 ⟨rfl, bt_15⟩
    have HBwt_15 := Lib.hid (Below.step HBwt_5.out bt_15)
    replace ct_11_0 := cell_below bt_15 ct_11_0
    clear bt_15
    cases t_15 with
    | false =>
      replace H := let_hid H
      obtain ⟨t_16, ht_16, H⟩ := H
      obtain rfl : t_16 = true := ht_16.symm
      replace H := app_hid H
      replace H := ite_t H
      obtain rfl := ret_hid H
      go_wp2_with fail
      go_ret
      exact ⟨rfl, HBwt_15.out⟩
    | true =>
      replace H := let_hid H
      obtain ⟨t_16, ht_16, H⟩ := H
      obtain rfl : t_16 = false := ht_16.symm
      replace H := app_hid H
      replace H := ite_f H
      replace H := idx_hid H
      obtain ⟨nt_21, yt_21, et_21, lt_21, gt_21, H⟩ := H
      obtain rfl : nt_11 = nt_21 := by omega
      clear et_21
      obtain rfl := Option.some.inj (gt_11.out.symm.trans gt_21.out)
      clear gt_21 lt_21
      replace H := idx_hid H
      obtain ⟨nt_24, yt_24, et_24, lt_24, gt_24, H⟩ := H
      subst et_24
      have rt_24 := byte_rule lt_24 gt_24.out
      have b0t_24 : (0 : Int) ≤ (nt_24 : Int) := by omega
      have b1t_24 : (nt_24 : Int) < (yt_11.size : Int) := by have := size_list yt_11; omega
      have b2t_24 : ((nt_24 : Int)).toNat = nt_24 := by omega
      have b3t_24 : nt_24 < yt_11.size := by have := size_list yt_11; omega
      replace H := let_hid H
      obtain ⟨t_24, ht_24, H⟩ := H
      obtain rfl := ret_hid H
      go_wp2_with fail
      go_ret
      exact ⟨rfl, HBwt_15.out⟩
end Go.Proofs.Ythdmmoameoafmaa.GiSeenAt

/- loop.example/g01062/impl.agree as a plain function, and the contract of the program's: where the plain one has an answer, the program has it. Conditions: slices read as lists. -/
namespace Go.Proofs.Ythdmmoameoafmaa.GiAgree
set_option linter.unusedVariables false
set_option linter.unusedSimpArgs false
open Go.RowKit
open Go.Proofs.Ythdmmoameoafmaa.Rowed Go.Proofs.Ythdmmoameoafmaa.Turn Go.Proofs.Ythdmmoameoafmaa.Aid Go.Proofs.Ythdmmoameoafmaa.GoP Go.Proofs.Ythdmmoameoafmaa.GoM

def l1 (rows : (List ByteArray)) (down : Int) (right : Int) (k0 : Nat) (yt_6 : ByteArray) (k1 : Nat) (s : Unit) (nx1 bk1 : Unit → Option (Bool)) : Option (Bool) :=
  
  letK (IntKind.i64.wrap (down + (k0 : Int))) fun (t_19 : Int) =>
  letK (IntKind.i64.wrap (right + (k1 : Int))) fun (t_22 : Int) =>
  Option.bind (Go.Proofs.Ythdmmoameoafmaa.GiSeenAt.P rows t_19 t_22) fun (t_23 : Int) =>
  letK (t_23 != 46) fun (t_26 : Bool) =>
  joinK (fun (t_32 : Bool) =>
  joinK (fun (t_39 : Bool) =>
  iteK t_39
  (some false)
  (appK nx1 ())) fun jt_39 => iteK t_32 (Option.bind (idx yt_6.toList (k1 : Int)) fun (yt_37 : UInt8) =>
  letK ((yt_37.toNat : Int)) fun (t_37 : Int) =>
  letK (t_23 != t_37) fun (t_38 : Bool) =>
  appK jt_39 t_38) (appK jt_39 false)) fun jt_32 => iteK t_26 (Option.bind (idx yt_6.toList (k1 : Int)) fun (yt_30 : UInt8) =>
  letK ((yt_30.toNat : Int)) fun (t_30 : Int) =>
  letK (t_30 != 46) fun (t_31 : Bool) =>
  appK jt_32 t_31) (appK jt_32 false)

def e1 (nx0 : (Unit) → Option (Bool)) (s : Unit) : Option (Bool) :=
  
  appK nx0 ()

def l0 (rows : (List ByteArray)) (others : (List ByteArray)) (down : Int) (right : Int) (k0 : Nat) (s : Unit) (nx0 bk0 : Unit → Option (Bool)) : Option (Bool) :=
  
  Option.bind (idx others (k0 : Int)) fun (yt_6 : ByteArray) =>
  guardK (yt_6.size ≤ 9223372036854775807) <|
  cntK (l1 rows down right k0 yt_6) (yt_6.size) 0 () (e1 nx0)

def e0  (s : Unit) : Option (Bool) :=
  
  some true

def P (rows : (List ByteArray)) (others : (List ByteArray)) (down : Int) (right : Int) : Option (Bool) :=
  cntK (l0 rows others down right) (others.length) 0 () (e0 )

set_option maxRecDepth 100000 in
set_option maxHeartbeats 2000000 in
theorem C (rows : (List ByteArray)) (others : (List ByteArray)) (down : Int) (right : Int) (A0 : Option Addr) (c0 : Nat) (A1 : Option Addr) (c1 : Nat)  (w : World) (M0 : Hid (Cells w 1 A0 rows.length (rows.map Value.string))) (N0 : Hid (rows.length ≤ 9223372036854775807)) (M1 : Hid (Cells w 1 A1 others.length (others.map Value.string))) (N1 : Hid (others.length ≤ 9223372036854775807))  {r : Bool} (H : Hid (P rows others down right = some r)) :
    Calls Try.prog 28 #[.slice A0 rows.length c0, .slice A1 others.length c1, .int .i64 down, .int .i64 right] w (Gives (.bool r) w) := by
  have HB := Lib.hid (Below.refl w.heap.size w)
  unfold P at H
  have N0o := N0.out
  have N1o := N1.out
  go_enter Try.func28, Try.ntmps28
  go_wp2_with fail
  go_loopg [15] (others.length) (fun m_ v15_ wr => ∃ (k0 : Nat) , k0 + m_ = others.length ∧ v15_ = .int .i64 (k0 : Int) ∧ Hid (cntK (l0 rows others down right) m_ k0 () (e0 ) = some r) ∧ Hid (Below w.heap.size w wr))
  case atStart => exact ⟨0, by omega, rfl, H, HB⟩
  case round =>
    obtain ⟨k0, hkm0, rfl, H, HBwr0⟩ := hrel
    rename World => wr0
    cases gk with
    | zero =>
      obtain rfl : k0 = others.length := by omega
      have hc0 : decide (((others.length : Nat) : Int) < ((others.length : Nat) : Int)) = false := by simp
      replace H := cnt_zero H
      unfold e0 at H
      obtain rfl := ret_hid H
      go_wp2_with fail
      go_ret
      exact ⟨rfl, HBwr0.out⟩
    | succ m0 =>
      have hlt0 : k0 < others.length := by omega
      have hc0 : decide ((k0 : Int) < ((others.length : Nat) : Int)) = true := by simp; omega
      replace H := cnt_succ H
      unfold l0 at H
      replace H := idx_hid H
      obtain ⟨nt_6, yt_6, et_6, lt_6, gt_6, H⟩ := H
      obtain rfl : k0 = nt_6 := by omega
      clear et_6
      obtain ⟨ab_t_6, ao_t_6, zt_6, At_6, z_t_6, ct_6_0⟩ := strs_at M1.out lt_6
      obtain rfl := Option.some.inj (gt_6.out.symm.trans z_t_6)
      subst At_6
      have ltt_6 := cell_lt ct_6_0
      replace ct_6_0 := cell_below HBwr0.out ct_6_0
      clear z_t_6
      have b0t_6 : (0 : Int) ≤ (k0 : Int) := by omega
      have b1t_6 : (k0 : Int) < ((others.length : Nat) : Int) := by omega
      have b2t_6 : ((k0 : Int)).toNat = k0 := by omega
      replace H := guard_hid H
      obtain ⟨hg1, H⟩ := H
      go_wp2_with fail
      go_loopg [22] (yt_6.size) (fun m_ v22_ wr => ∃ (k1 : Nat) , k1 + m_ = yt_6.size ∧ v22_ = .int .i64 (k1 : Int) ∧ Hid (cntK (l1 rows down right k0 yt_6) m_ k1 () (e1 (fun s' => cntK (l0 rows others down right) m0 (k0 + 1) s' (e0 ))) = some r) ∧ Hid (Below w.heap.size w wr))
      case atStart => exact ⟨0, by omega, rfl, H, HBwr0⟩
      case round =>
        obtain ⟨k1, hkm1, rfl, H, HBwr1⟩ := hrel
        rename World => wr1
        cases gk with
        | zero =>
          obtain rfl : k1 = yt_6.size := by omega
          have hc1 : decide (((yt_6.size : Nat) : Int) < ((yt_6.size : Nat) : Int)) = false := by simp
          replace H := cnt_zero H
          unfold e1 at H
          replace H := app_hid H
          go_wp2_with fail
          go_roundg m0
          case measure => omega
          case rel => exact ⟨k0 + 1, by omega, by go_num, H, HBwr1⟩
        | succ m1 =>
          have hlt1 : k1 < yt_6.size := by omega
          have hc1 : decide ((k1 : Int) < ((yt_6.size : Nat) : Int)) = true := by simp; omega
          replace H := cnt_succ H
          unfold l1 at H
          replace H := let_hid H
          obtain ⟨t_19, ht_19, H⟩ := H
          replace H := let_hid H
          obtain ⟨t_22, ht_22, H⟩ := H
          replace H := bind_hid H
          obtain ⟨t_23, qt_23, H⟩ := H
          go_wp2_with fail
          go_at_call 31
          refine (Go.Proofs.Ythdmmoameoafmaa.GiSeenAt.C (rows) (t_19) (t_22) A0 c0 _   (Lib.hid (Cells.below M0.out HBwr1.out)) N0 qt_23).mono ?_
          rintro e_t_23 wt_23 ⟨rfl, bt_23⟩
          have HBwt_23 := Lib.hid (Below.step HBwr1.out bt_23)
          clear bt_23
          replace H := let_hid H
          obtain ⟨t_26, ht_26, H⟩ := H
          replace H := join_hid H
          cases t_26 with
          | false =>
            replace H := ite_f H
            replace H := app_hid H
            replace H := join_hid H
            replace H := ite_f H
            replace H := app_hid H
            replace H := ite_f H
            replace H := app_hid H
            go_wp2_with fail
            go_roundg m1
            case measure => omega
            case rel => exact ⟨k1 + 1, by omega, by go_num, H, HBwt_23⟩
          | true =>
            replace H := ite_t H
            replace H := idx_hid H
            obtain ⟨nt_30, yt_30, et_30, lt_30, gt_30, H⟩ := H
            obtain rfl : k1 = nt_30 := by omega
            clear et_30
            have rt_30 := byte_rule lt_30 gt_30.out
            have b0t_30 : (0 : Int) ≤ (k1 : Int) := by omega
            have b1t_30 : (k1 : Int) < (yt_6.size : Int) := by have := size_list yt_6; omega
            have b2t_30 : ((k1 : Int)).toNat = k1 := by omega
            have b3t_30 : k1 < yt_6.size := by have := size_list yt_6; omega
            replace H := let_hid H
            obtain ⟨t_30, ht_30, H⟩ := H
            replace H := let_hid H
            obtain ⟨t_31, ht_31, H⟩ := H
            replace H := app_hid H
            replace H := join_hid H
            cases t_31 with
            | false =>
              replace H := ite_f H
              replace H := app_hid H
              replace H := ite_f H
              replace H := app_hid H
              go_wp2_with fail
              go_roundg m1
              case measure => omega
              case rel => exact ⟨k1 + 1, by omega, by go_num, H, HBwt_23⟩
            | true =>
              replace H := ite_t H
              replace H := idx_hid H
              obtain ⟨nt_37, yt_37, et_37, lt_37, gt_37, H⟩ := H
              obtain rfl : k1 = nt_37 := by omega
              clear et_37
              obtain rfl := Option.some.inj (gt_30.out.symm.trans gt_37.out)
              clear gt_37 lt_37
              replace H := let_hid H
              obtain ⟨t_37, ht_37, H⟩ := H
              obtain rfl := ht_30.symm.trans ht_37
              replace H := let_hid H
              obtain ⟨t_38, ht_38, H⟩ := H
              replace H := app_hid H
              cases t_38 with
              | false =>
                replace H := ite_f H
                replace H := app_hid H
                go_wp2_with fail
                go_roundg m1
                case measure => omega
                case rel => exact ⟨k1 + 1, by omega, by go_num, H, HBwt_23⟩
              | true =>
                replace H := ite_t H
                obtain rfl := ret_hid H
                go_wp2_with fail
                go_ret
                exact ⟨rfl, HBwt_23.out⟩
end Go.Proofs.Ythdmmoameoafmaa.GiAgree

/- loop.example/g01062/impl.fits as a plain function, and the contract of the program's: where the plain one has an answer, the program has it. Conditions: slices read as lists. -/
namespace Go.Proofs.Ythdmmoameoafmaa.GiFits
set_option linter.unusedVariables false
set_option linter.unusedSimpArgs false
open Go.RowKit
open Go.Proofs.Ythdmmoameoafmaa.Rowed Go.Proofs.Ythdmmoameoafmaa.Turn Go.Proofs.Ythdmmoameoafmaa.Aid Go.Proofs.Ythdmmoameoafmaa.GoP Go.Proofs.Ythdmmoameoafmaa.GoM

def P (sheet : (List ByteArray)) (b_rows : (List ByteArray)) (row_2 : Int) (col : Int) : Option (Bool) :=
  letK (IntKind.i64.wrap ((sheet.length : Int) - (b_rows.length : Int))) fun (t_8 : Int) =>
  Option.bind (Go.Proofs.Ythdmmoameoafmaa.GiWithin.P row_2 0 t_8) fun (t_9 : Bool) =>
  joinK (fun (t_23 : Bool) =>
  joinK (fun (t_31 : Bool) =>
  some t_31) fun jt_31 => iteK t_23 (Option.bind (Go.Proofs.Ythdmmoameoafmaa.GiAgree.P sheet b_rows row_2 col) fun (t_30 : Bool) =>
  appK jt_31 t_30) (appK jt_31 false)) fun jt_23 => iteK t_9 (Option.bind (idx sheet 0) fun (yt_13 : ByteArray) =>
  Option.bind (idx b_rows 0) fun (yt_18 : ByteArray) =>
  letK (IntKind.i64.wrap ((yt_13.size : Int) - (yt_18.size : Int))) fun (t_21 : Int) =>
  Option.bind (Go.Proofs.Ythdmmoameoafmaa.GiWithin.P col 0 t_21) fun (t_22 : Bool) =>
  appK jt_23 t_22) (appK jt_23 false)

set_option maxRecDepth 100000 in
set_option maxHeartbeats 2000000 in
theorem C (sheet : (List ByteArray)) (b_rows : (List ByteArray)) (row_2 : Int) (col : Int) (A0 : Option Addr) (c0 : Nat) (A1_0 : Option Addr) (c1_0 : Nat)  (w : World) (M0 : Hid (Cells w 1 A0 sheet.length (sheet.map Value.string))) (N0 : Hid (sheet.length ≤ 9223372036854775807)) (M1_0 : Hid (Cells w 1 A1_0 b_rows.length (b_rows.map Value.string))) (N1_0 : Hid (b_rows.length ≤ 9223372036854775807))  {r : Bool} (H : Hid (P sheet b_rows row_2 col = some r)) :
    Calls Try.prog 21 #[.slice A0 sheet.length c0, .agg #[.slice A1_0 b_rows.length c1_0], .int .i64 row_2, .int .i64 col] w (Gives (.bool r) w) := by
  have HB := Lib.hid (Below.refl w.heap.size w)
  unfold P at H
  have N0o := N0.out
  have N1_0o := N1_0.out
  go_enter Try.func21, Try.ntmps21
  obtain ⟨w_b_0, hw_b_0⟩ : ∃ x, w.alloc (.cells #[.slice A1_0 b_rows.length c1_0] 30) = x := ⟨_, rfl⟩
  have bw_b_0 : Below w.heap.size w w_b_0 := by rw [← hw_b_0]; exact (Below.refl _ _).alloc (Nat.le_refl _) _
  have HBw_b_0 := Lib.hid (Below.step HB.out bw_b_0)
  clear bw_b_0
  have kb_0_0 : w_b_0.cell? ⟨w.heap.size, 0, none⟩ = some (.slice A1_0 b_rows.length c1_0) := by rw [← hw_b_0]; exact box_new _ _ _ 0 _ rfl
  go_wp2_with fail
  have Hkb_0_0 := Lib.hid kb_0_0
  replace kb_0_0 := cell_regrown kb_0_0
  replace H := let_hid H
  obtain ⟨t_8, ht_8, H⟩ := H
  replace H := bind_hid H
  obtain ⟨t_9, qt_9, H⟩ := H
  have nt_9 : ∀ d os, Calls Try.prog 27 #[.int .i64 row_2, .int .i64 0, .int .i64 t_8] (Go.Sort.grow (redrawn w_b_0 d) os) fun e w'' => e = .returned (.bool t_9) ∧ ∃ p : Regrown, w'' = Go.Sort.grow (redrawn w_b_0 p.d) p.os := fun d os => Calls.regrown_of (Go.Proofs.Ythdmmoameoafmaa.GiWithin.C (row_2) (0) (t_8)  _    qt_9)
  replace H := join_hid H
  cases t_9 with
  | false =>
    replace H := ite_f H
    replace H := app_hid H
    replace H := join_hid H
    replace H := ite_f H
    replace H := app_hid H
    refine wp_region_quiet_below (by kernel_rfl) (by kernel_rfl) ?_
    repeat (go_big_quiet_step (first | (go_at_call 27; exact nt_9 _ _)))
    refine wpQuiet_nil ?_
    intro Y1 hY1
    replace hY1 := below_class hY1
    clear nt_9
    replace kb_0_0 := Hkb_0_0.out
    clear Hkb_0_0
    have HBY1 := Lib.hid (Below.step HBw_b_0.out hY1)
    replace kb_0_0 := cell_below hY1 kb_0_0
    clear hY1
    obtain rfl := ret_hid H
    go_wp2_with fail
    go_ret
    exact ⟨rfl, HBY1.out⟩
  | true =>
    replace H := ite_t H
    replace H := idx_hid H
    obtain ⟨nt_13, yt_13, et_13, lt_13, gt_13, H⟩ := H
    obtain rfl : 0 = nt_13 := by omega
    clear et_13
    obtain ⟨ab_t_13, ao_t_13, zt_13, At_13, z_t_13, ct_13_0⟩ := strs_at M0.out lt_13
    obtain rfl := Option.some.inj (gt_13.out.symm.trans z_t_13)
    subst At_13
    have ltt_13 := cell_lt ct_13_0
    replace ct_13_0 := cell_below HBw_b_0.out ct_13_0
    clear z_t_13
    have b1t_13 : (0 : Int) < ((sheet.length : Nat) : Int) := by omega
    have b3t_13 : 0 < sheet.length := by omega
    try simp only [Nat.zero_mul, Nat.add_zero, Nat.zero_add, Nat.reduceMul] at ct_13_0
    have Hct_13_0 := Lib.hid ct_13_0
    replace ct_13_0 := cell_regrown ct_13_0
    replace H := idx_hid H
    obtain ⟨nt_18, yt_18, et_18, lt_18, gt_18, H⟩ := H
    obtain rfl : 0 = nt_18 := by omega
    clear et_18
    obtain ⟨ab_t_18, ao_t_18, zt_18, At_18, z_t_18, ct_18_0⟩ := strs_at M1_0.out lt_18
    obtain rfl := Option.some.inj (gt_18.out.symm.trans z_t_18)
    subst At_18
    have ltt_18 := cell_lt ct_18_0
    replace ct_18_0 := cell_below HBw_b_0.out ct_18_0
    clear z_t_18
    have b1t_18 : (0 : Int) < ((b_rows.length : Nat) : Int) := by omega
    have b3t_18 : 0 < b_rows.length := by omega
    try simp only [Nat.zero_mul, Nat.add_zero, Nat.zero_add, Nat.reduceMul] at ct_18_0
    have Hct_18_0 := Lib.hid ct_18_0
    replace ct_18_0 := cell_regrown ct_18_0
    replace H := let_hid H
    obtain ⟨t_21, ht_21, H⟩ := H
    replace H := bind_hid H
    obtain ⟨t_22, qt_22, H⟩ := H
    have nt_22 : ∀ d os, Calls Try.prog 27 #[.int .i64 col, .int .i64 0, .int .i64 t_21] (Go.Sort.grow (redrawn w_b_0 d) os) fun e w'' => e = .returned (.bool t_22) ∧ ∃ p : Regrown, w'' = Go.Sort.grow (redrawn w_b_0 p.d) p.os := fun d os => Calls.regrown_of (Go.Proofs.Ythdmmoameoafmaa.GiWithin.C (col) (0) (t_21)  _    qt_22)
    replace H := app_hid H
    replace H := join_hid H
    cases t_22 with
    | false =>
      replace H := ite_f H
      replace H := app_hid H
      refine wp_region_quiet_below (by kernel_rfl) (by kernel_rfl) ?_
      repeat (go_big_quiet_step (first | (go_at_call 27; with_reducible exact nt_9 _ _) | (go_at_call 27; with_reducible exact nt_22 _ _) | (go_at_call 27; exact nt_9 _ _) | (go_at_call 27; exact nt_22 _ _)))
      refine wpQuiet_nil ?_
      intro Y1 hY1
      replace hY1 := below_class hY1
      clear nt_9 nt_22
      replace kb_0_0 := Hkb_0_0.out
      clear Hkb_0_0
      replace ct_13_0 := Hct_13_0.out
      clear Hct_13_0
      replace ct_18_0 := Hct_18_0.out
      clear Hct_18_0
      have HBY1 := Lib.hid (Below.step HBw_b_0.out hY1)
      replace kb_0_0 := cell_below hY1 kb_0_0
      replace ct_13_0 := cell_below hY1 ct_13_0
      replace ct_18_0 := cell_below hY1 ct_18_0
      clear hY1
      obtain rfl := ret_hid H
      go_wp2_with fail
      go_ret
      exact ⟨rfl, HBY1.out⟩
    | true =>
      replace H := ite_t H
      replace H := bind_hid H
      obtain ⟨t_30, qt_30, H⟩ := H
      have nt_30 : ∀ d os, Calls Try.prog 28 #[.slice (some ⟨ab_t_13, ao_t_13, none⟩) sheet.length c0, .slice (some ⟨ab_t_18, ao_t_18, none⟩) b_rows.length c1_0, .int .i64 row_2, .int .i64 col] (Go.Sort.grow (redrawn w_b_0 d) os) fun e w'' => e = .returned (.bool t_30) ∧ ∃ p : Regrown, w'' = Go.Sort.grow (redrawn w_b_0 p.d) p.os := fun d os => Calls.regrown_of (Go.Proofs.Ythdmmoameoafmaa.GiAgree.C (sheet) (b_rows) (row_2) (col) (some ⟨ab_t_13, ao_t_13, none⟩) c0 (some ⟨ab_t_18, ao_t_18, none⟩) c1_0 _   (Lib.hid (Cells.below (Cells.below M0.out HBw_b_0.out) (below_regrown _ _ _))) N0 (Lib.hid (Cells.below (Cells.below M1_0.out HBw_b_0.out) (below_regrown _ _ _))) N1_0 qt_30)
      replace H := app_hid H
      refine wp_region_quiet_below (by kernel_rfl) (by kernel_rfl) ?_
      repeat (go_big_quiet_step (first | (go_at_call 27; with_reducible exact nt_9 _ _) | (go_at_call 27; with_reducible exact nt_22 _ _) | (go_at_call 27; exact nt_9 _ _) | (go_at_call 27; exact nt_22 _ _) | (go_at_call 28; exact nt_30 _ _)))
      refine wpQuiet_nil ?_
      intro Y1 hY1
      replace hY1 := below_class hY1
      clear nt_9 nt_22 nt_30
      replace kb_0_0 := Hkb_0_0.out
      clear Hkb_0_0
      replace ct_13_0 := Hct_13_0.out
      clear Hct_13_0
      replace ct_18_0 := Hct_18_0.out
      clear Hct_18_0
      have HBY1 := Lib.hid (Below.step HBw_b_0.out hY1)
      replace kb_0_0 := cell_below hY1 kb_0_0
      replace ct_13_0 := cell_below hY1 ct_13_0
      replace ct_18_0 := cell_below hY1 ct_18_0
      clear hY1
      obtain rfl := ret_hid H
      go_wp2_with fail
      go_ret
      exact ⟨rfl, HBY1.out⟩
end Go.Proofs.Ythdmmoameoafmaa.GiFits

/- Rows of bytes that a conversion from a string lays (the row bears a mark behind its last cell), in words like those of other rows of one's own. No condition. -/
namespace Go.Proofs.Ythdmmoameoafmaa.GoB
set_option linter.unusedVariables false
set_option linter.unusedSimpArgs false
open Go.RowKit
open Go.Proofs.Ythdmmoameoafmaa.Rowed Go.Proofs.Ythdmmoameoafmaa.Turn Go.Proofs.Ythdmmoameoafmaa.GoM

def u8s (l : List Int) : List Value := l.map (fun z => Value.int .u8 z)
theorem u8s_len (l : List Int) : (u8s l).length = l.length := by simp [u8s]
/-- a row of one's own that no mark covers -/
def ownsB (w : World) (base : Nat) (e : TypeId) (size : Nat) (v : Value) (n : Nat) (xs : List Value) : Prop :=
  xs.length = n * size ∧
  ((v = .slice none 0 0 ∧ n = 0) ∨
   ∃ g cap cur, v = .slice (some ⟨g, 0, none⟩) n cap ∧ base ≤ g ∧ (∃ fz, w.heap[g]? = some (.cells cur e fz) ∧ cur.size ≤ fz.1) ∧ n ≤ cap ∧ n ≤ 9223372036854775807 ∧ cur.size = cap * size ∧ cur.toList.take (n * size) = xs)
section
variable {w : World} {base : Nat} {e : TypeId} {size : Nat} {v : Value} {n : Nat} {xs : List Value}
theorem ownsB.lt (h : ownsB w base e size v n xs) : ∀ k, v.ownBlock = some k → base ≤ k ∧ k < w.heap.size := by
  intro k hk
  rcases h.2 with ⟨rfl, _⟩ | ⟨g, cap, cur, rfl, hb, ⟨fz, hg, _⟩, _⟩
  · simp [Value.ownBlock] at hk
  · simp [Value.ownBlock] at hk
    subst hk
    exact ⟨hb, (Array.getElem?_eq_some_iff.1 hg).1⟩
theorem ownsB.kept {w' : World} {row : Option Nat} (h : ownsB w base e size v n xs) (hg : w.grownBy w' row) (hne : v.ownBlock = none ∨ v.ownBlock ≠ row) : ownsB w' base e size v n xs := by
  refine ⟨h.1, ?_⟩
  rcases h.2 with hn | ⟨g, cap, cur, rfl, hb, ⟨fz, hgg, hz⟩, rest⟩
  · exact .inl hn
  · refine .inr ⟨g, cap, cur, rfl, hb, ⟨fz, ?_, hz⟩, rest⟩
    rw [hg.block g (Array.getElem?_eq_some_iff.1 hgg).1 (by simpa [Value.ownBlock] using hne)]
    exact hgg
theorem ownsB.cells (h : ownsB w base e size v n xs) {g : Nat} (hg : v.ownBlock = some g) : ∀ j u, xs[j]? = some u → w.cell? ((⟨g, 0, none⟩ : Addr).add j) = some u := by
  intro j u hu
  rcases h.2 with ⟨rfl, _⟩ | ⟨g', cap, cur, rfl, _, ⟨fz, hgg, _⟩, _, _, _, htake⟩
  · simp [Value.ownBlock] at hg
  · simp [Value.ownBlock] at hg
    subst hg
    rw [add_flat, Nat.zero_add, cell_of_row w g' j cur e fz hgg]
    rw [← htake, List.getElem?_take] at hu
    split at hu
    · simpa using hu
    · cases hu
theorem ownsB.frozenAt {g cap : Nat} (h : ownsB w base e size (.slice (some ⟨g, 0, none⟩) n cap) n xs) (j : Nat) (hj : j < n * size) : w.frozen? ⟨g, j, none⟩ = false := by
  rcases h.2 with ⟨h', _⟩ | ⟨g', cap', cur, h', _, ⟨fz, hg, hz⟩, hnc, _, hcs, _⟩
  · simp at h'
  · simp only [Value.slice.injEq, Option.some.injEq, Addr.mk.injEq, and_true, true_and] at h'
    obtain ⟨rfl, rfl⟩ := h'
    have : n * size ≤ cap * size := Nat.mul_le_mul_right size hnc
    obtain ⟨lo, hi⟩ := fz
    unfold World.frozen?
    rw [hg]
    simp only at hz ⊢
    simp
    omega
theorem ownsB.stored {g cap : Nat} (h : ownsB w base e size (.slice (some ⟨g, 0, none⟩) n cap) n xs) (j : Nat) (u : Value) :
    ownsB (w.setCell ⟨g, j, none⟩ u) base e size (.slice (some ⟨g, 0, none⟩) n cap) n (xs.set j u) ∧ w.grownBy (w.setCell ⟨g, j, none⟩ u) (some g) := by
  rcases h.2 with ⟨h', _⟩ | ⟨g', cap', cur, h', hb, ⟨fz, hg, hz⟩, hnc, hcm, hcs, htake⟩
  · simp at h'
  · simp only [Value.slice.injEq, Option.some.injEq, Addr.mk.injEq, and_true, true_and] at h'
    obtain ⟨rfl, rfl⟩ := h'
    refine ⟨⟨by simpa using h.1, .inr ⟨g, cap, cur.setIfInBounds j u, rfl, hb, ⟨fz, ?_, by simpa using hz⟩, hnc, hcm, by simpa using hcs, ?_⟩⟩,
      ⟨rfl, rfl, rfl, by simp, fun k _ hk => heap_setCell_other w ⟨g, j, none⟩ k u (fun e => hk (by simp [e]))⟩⟩
    · show (w.setCell ⟨g, j, none⟩ u).heap[g]? = _
      have hl := (Array.getElem?_eq_some_iff.1 hg).1
      simp [World.setCell, Array.getElem?_modify, hg]
    · rw [Array.toList_setIfInBounds, ← htake, List.take_set]
end
theorem own_below {w w' : World} {base n size : Nat} {v : Value} {e : TypeId} {xs : List Value} (h : ownsB w base e size v n xs) (hb : Below w.heap.size w w') : ownsB w' base e size v n xs :=
  h.kept (Aid.grown_of hb) (by cases v.ownBlock <;> simp)
theorem own_lt {w : World} {b T K n m c : Nat} {A : Option Addr} {xs : List Value} (h : ownsB w b T K (.slice A m c) n xs) (a : Addr) (ha : A = some a) : b ≤ a.block ∧ a.block < w.heap.size := by
  subst ha
  exact h.lt a.block rfl
theorem apart_fresh {w : World} {b T K n m c : Nat} {A : Option Addr} {xs : List Value} (h : ownsB w b T K (.slice A m c) n xs) : Apart (some ⟨w.heap.size, 0, none⟩) A := by
  intro a a' ha ha' e
  have := (own_lt h a' ha').2
  injection ha with ha
  subst ha
  simp at e
  omega
theorem apart_call {w w1 : World} {b T K n m c T' K' n' m' c' : Nat} {A B : Option Addr} {xs ys : List Value} (h1 : w1.ownsRow w.heap.size T K (.slice A m c) n xs) (h : ownsB w b T' K' (.slice B m' c') n' ys) : Apart A B := by
  intro a a' ha ha' e
  have := (own_lt h a' ha').2
  have := (GoM.own_lt h1 a ha).1
  omega
theorem own_other {w w' : World} {b T K n m c n' c' : Nat} {A B : Option Addr} {ys : List Value} (h : ownsB w b T K (.slice B m c) n ys) (hg : w.grownBy w' (Value.slice A n' c').ownBlock) (hD : Apart A B) : ownsB w' b T K (.slice B m c) n ys := by
  refine h.kept hg ?_
  cases B with
  | none => exact .inl rfl
  | some y =>
    refine .inr ?_
    cases A with
    | none => simp [Value.ownBlock]
    | some x => simp only [Value.ownBlock, ne_eq, Option.some.injEq]; exact fun e => hD x y rfl rfl e.symm
theorem apart_old {wr : World} {b T K n m c g : Nat} {A : Option Addr} {xs : List Value} (h : ownsB wr b T K (.slice A m c) n xs) (hg : g < b) : Apart A (some ⟨g, 0, none⟩) := by
  intro a a' ha ha' e
  have := (own_lt h a ha).1
  injection ha' with ha'
  subst ha'
  simp at e
  omega
theorem own_len {w : World} {b T K n m c : Nat} {A : Option Addr} {xs : List Value} (h : m = n) (hO : ownsB w b T K (.slice A n c) n xs) : ownsB w b T K (.slice A m c) m xs := by subst h; exact hO
theorem own_max {w : World} {b T K n c : Nat} {A : Option Addr} {xs : List Value} (h : ownsB w b T K (.slice A n c) n xs) : n ≤ 9223372036854775807 := by
  rcases h.2 with ⟨_, h0⟩ | ⟨g, cap, cur, hv, _, _, h1, h2, _⟩
  · omega
  · exact h2
theorem own_some {w : World} {b T K n c : Nat} {A : Option Addr} {xs : List Value} (h : ownsB w b T K (.slice A n c) n xs) (hn : 0 < n) : ∃ g, A = some ⟨g, 0, none⟩ := by
  rcases h.2 with ⟨_, h0⟩ | ⟨g, cap, cur, hv, _⟩
  · omega
  · injection hv with e1; exact ⟨g, e1⟩
theorem own_stores {b T K n c g : Nat} (ps : List (Nat × Value)) : ∀ {w : World} {xs : List Value}, ownsB w b T K (.slice (some ⟨g, 0, none⟩) n c) n xs →
    ownsB (ps.foldl (fun w p => w.setCell ⟨g, p.1, none⟩ p.2) w) b T K (.slice (some ⟨g, 0, none⟩) n c) n (ps.foldl (fun xs p => xs.set p.1 p.2) xs) ∧ w.grownBy (ps.foldl (fun w p => w.setCell ⟨g, p.1, none⟩ p.2) w) (some g) := by
  induction ps with
  | nil => intro w xs h; exact ⟨h, Aid.grown_refl _ _⟩
  | cons p ps ih =>
    intro w xs h
    have h1 := h.stored p.1 p.2
    have h2 := ih h1.1
    exact ⟨h2.1, Aid.grown_tr h1.2 h2.2⟩
theorem own_cells {w : World} {base n c size : Nat} {A : Option Addr} {e : TypeId} {xs : List Value} (h : ownsB w base e size (.slice A n c) n xs) : Cells w size A n xs := by
  rcases h.2 with ⟨hv, h0⟩ | ⟨g, cap, cur, hv, _⟩
  · subst h0
    have := h.1
    exact ⟨this, fun hn => by rw [Nat.zero_mul] at this; omega⟩
  · injection hv with e1 e2 e3
    subst e1
    exact ⟨h.1, fun _ => ⟨_, rfl, h.cells rfl⟩⟩
theorem u8_at {w : World} {A : Option Addr} {n k : Nat} {l : List Int} (h : Cells w 1 A n (u8s l)) (hk : k < n) : ∃ (b o : Nat) (x : Int), A = some ⟨b, o, none⟩ ∧ l[k]? = some x ∧ w.cell? ⟨b, o + k, none⟩ = some (.int .u8 x) := by
  have hl : k < l.length := by have := h.1; unfold u8s at this; rw [List.length_map] at this; omega
  obtain ⟨⟨b, o, sp⟩, e, hc⟩ := h.2 (by unfold u8s; rw [List.length_map]; omega)
  have h0 := hc 0 (.int .u8 l[0]) (by unfold u8s; rw [List.getElem?_map, List.getElem?_eq_getElem (show 0 < l.length by omega)]; rfl)
  obtain rfl : sp = none := cell_spot (b := b) (o := o) h0
  have hs := List.getElem?_eq_getElem hl
  have := hc k (.int .u8 l[k]) (by unfold u8s; rw [List.getElem?_map, hs]; rfl)
  rw [add_flat] at this
  exact ⟨b, o, l[k], e, hs, this⟩
/-- []byte(s) -/
theorem conv_new {P : Program} (base : Nat) (w : World) (src dst e : TypeId) (s : ByteArray) (hs : P.underlying src = some .string) (hd : P.underlying dst = some (.slice e)) (he : P.underlying e = some (.int .u8)) (hb : base ≤ w.heap.size) (hn : s.size ≤ 9223372036854775807) {l : List Int} (hl : s.toList.map (fun b => (b.toNat : Int)) = l) :
    ∃ w' c, (convert src dst (.string s)).run P w = .ok (.slice (some ⟨w.heap.size, 0, none⟩) l.length c) w' ∧ ownsB w' base e 1 (.slice (some ⟨w.heap.size, 0, none⟩) l.length c) l.length (u8s l) ∧ Below w.heap.size w w' := by
  subst hl
  have hsz : (s.toList.map (fun b => (b.toNat : Int))).length = s.size := by rw [List.length_map, size_list]
  rw [hsz]
  refine ⟨_, _, Lib.run_convert_string_bytes w src dst e s hs hd he, ⟨?_, .inr ⟨w.heap.size, _, Lib.bytesCells w e s, rfl, hb, ⟨_, Lib.bytesWorld_at_new w e s, Nat.le_refl _⟩, grownCap_ge _ _ _ _, hn, ?_, ?_⟩⟩, ?_⟩
  · rw [u8s_len, hsz, Nat.mul_one]
  · have := grownCap_ge w s.size 0 e
    have h2 : s.data.size = s.size := rfl
    simp only [Lib.bytesCells, Array.size_append, Array.size_map, Array.size_replicate, Nat.mul_one, h2]
    omega
  · rw [Nat.mul_one]
    have h2 : s.data.toList.length = s.size := rfl
    simp only [Lib.bytesCells, Array.toList_append, Array.toList_map, u8s, List.map_map]
    rw [List.take_append_of_le_length (by rw [List.length_map, h2]; exact Nat.le_refl _), List.take_of_length_le (by rw [List.length_map, h2]; exact Nat.le_refl _), Lib.toList_data]
    rfl
  · exact ⟨rfl, rfl, rfl, by rw [Lib.bytesWorld_size]; omega, fun k hk => Lib.bytesWorld_at_old w e s k hk⟩
/-- string(b) -/
def strK (l : List Int) : ByteArray := ⟨(l.map (fun z => UInt8.ofNat z.toNat)).toArray⟩
theorem fold_push (l : List Int) : ∀ r : ByteArray, l.foldl (fun r n => r.push (UInt8.ofNat n.toNat)) r = ⟨r.data ++ (l.map (fun z => UInt8.ofNat z.toNat)).toArray⟩ := by
  induction l with
  | nil => intro r; simp
  | cons x l ih => intro r; rw [List.foldl_cons, ih]; simp [ByteArray.push]
theorem conv_back {P : Program} {w : World} {src dst e : TypeId} {b n c : Nat} {A : Option Addr} {l : List Int} {s : ByteArray} (hs : P.underlying src = some (.slice e)) (he : P.underlying e = some (.int .u8)) (hd : P.underlying dst = some .string)
    (h : ownsB w b e 1 (.slice A n c) n (u8s l)) (hl : strK l = s) : (convert src dst (.slice A n c)).run P w = .ok (.string s) w := by
  subst hl
  have hn : l.length = n := by have := h.1; rw [u8s_len, Nat.mul_one] at this; exact this
  rcases h.2 with ⟨hv, h0⟩ | ⟨g, cap, cur, hv, _⟩
  · injection hv with e1 e2 e3
    subst e1 e2 e3
    have : l = [] := List.length_eq_zero_iff.1 hn
    subst this
    rw [run_convert_bytes_string w src dst e _ 0 0 hs he hd]
    simp [Conv.bytesToString, strK]
    rfl
  · injection hv with e1 e2 e3
    subst e1 e3
    rw [run_convert_bytes_string w src dst e _ n c hs he hd]
    have hload := run_loadCells_list (P := P) w ⟨g, 0, none⟩ (l.map (Value.int .u8)) (fun j v hj => h.cells rfl j v hj)
    rw [List.length_map, hn] at hload
    rw [run_bytesToString w ⟨g, 0, none⟩ n c l hload, fold_push]
    have he0 : ByteArray.empty.data = #[] := rfl
    rw [he0, Array.empty_append]; rfl
end Go.Proofs.Ythdmmoameoafmaa.GoB

/- The contracts of the laws' helpers on slices of ints: toIntS, eqIntS, markIntS, heldIntS. Condition: the slice reads as a list of ints. -/
namespace Go.Proofs.Ythdmmoameoafmaa.HelpInt
set_option linter.unusedVariables false
open Go.RowKit
open Go.Proofs.Ythdmmoameoafmaa.Rowed

/-- ints as values -/
def iv (l : List Int) : List Value := l.map (Value.int .i64)
theorem iv_len (l : List Int) : (iv l).length = l.length := by simp [iv]
theorem iv_at (l : List Int) (k : Nat) : (iv l)[k]? = (l[k]?).map (Value.int .i64) := by simp [iv]
/-- the slice 'A, n' reads as the ints l -/
abbrev Ints (w : World) (A : Option Addr) (n : Nat) (l : List Int) : Prop := Cells w 1 A n (iv l)
theorem add_none (b o n : Nat) : (⟨b, o, none⟩ : Addr).add n = ⟨b, o + n, none⟩ := by
  unfold Addr.add; split
  · rename_i h; subst h; rfl
  · rfl
theorem Ints.at_ {w : World} {A : Option Addr} {n k : Nat} {l : List Int} (h : Ints w A n l) (hk : k < n) : ∃ (b o : Nat) (x : Int), A = some ⟨b, o, none⟩ ∧ l[k]? = some x ∧ w.cell? ⟨b, o + k, none⟩ = some (.int .i64 x) := by
  have hl : k < l.length := by have := h.1; rw [iv_len] at this; omega
  obtain ⟨⟨b, o, sp⟩, e, hc⟩ := h.2 (by rw [iv_len]; omega)
  have h0 := hc 0 _ (by rw [iv_at, List.getElem?_eq_getElem (show 0 < l.length by omega)]; rfl)
  obtain rfl : sp = none := cell_spot (b := b) (o := o) h0
  have hs := List.getElem?_eq_getElem hl
  have := hc k (.int .i64 l[k]) (by rw [iv_at, hs]; rfl)
  rw [add_none] at this
  exact ⟨b, o, l[k], e, hs, this⟩








end Go.Proofs.Ythdmmoameoafmaa.HelpInt

/- More words for the contracts of plain functions: a test against nil, a row that is handed over, a row whose end is cleared. No condition. -/
namespace Go.Proofs.Ythdmmoameoafmaa.GoK
set_option linter.unusedVariables false
open Go.RowKit
open Go.Proofs.Ythdmmoameoafmaa.Rowed Go.Proofs.Ythdmmoameoafmaa.Turn Go.Proofs.Ythdmmoameoafmaa.GoM

/-- a test of a row against nil: only an empty row can be nil, and then both ways have one answer -/
def nilK {α ρ : Type} (l : List α) (f : Bool → Option ρ) : Option ρ := f false
theorem nilK_hid {α ρ : Type} {l : List α} {f : Bool → Option ρ} {r : ρ} (H : Hid (nilK l f = some r)) (b : Bool) (hb : b = true → l = []) (he : l = [] → f true = f false) : Hid (f b = some r) := by
  have h : f false = some r := H
  cases b with
  | false => exact h
  | true => exact (he (hb rfl)).trans h
theorem nil_cells {w : World} {K n : Nat} {A : Option Addr} {α : Type} {l : List α} {cs : List Value} (h : Cells w K A n cs) (hl : cs = [] → l = []) : A.isNone = true → l = [] := by
  intro hA
  refine hl ?_
  cases hc : cs with
  | nil => rfl
  | cons y ys => obtain ⟨a, e, _⟩ := h.2 (by rw [hc]; simp); rw [e] at hA; simp at hA
/-- where a row lies that a function hands on: where another one lay, or behind all that was there -/
def From (w : World) (A A' : Option Addr) : Prop := ∀ a', A' = some a' → (∃ a, A = some a ∧ a.block = a'.block) ∨ w.heap.size ≤ a'.block
end Go.Proofs.Ythdmmoameoafmaa.GoK

/- slices.Clone[[]string,string] as a plain function, and the contract of the program's: where the plain one has an answer, the program has it. Conditions: slices read as lists. -/
namespace Go.Proofs.Ythdmmoameoafmaa.GxSlicesCloneStringString
set_option linter.unusedVariables false
set_option linter.unusedSimpArgs false
open Go.RowKit
open Go.Proofs.Ythdmmoameoafmaa.Rowed Go.Proofs.Ythdmmoameoafmaa.Turn Go.Proofs.Ythdmmoameoafmaa.Aid Go.Proofs.Ythdmmoameoafmaa.GoP Go.Proofs.Ythdmmoameoafmaa.GoM

def P (s_0 : (List ByteArray)) : Option ((List ByteArray)) :=
  Go.Proofs.Ythdmmoameoafmaa.GoK.nilK s_0 fun (nt_2 : Bool) =>
  iteK nt_2
  (some [])
  (guardK (([] : List ByteArray).length + s_0.length ≤ 1099511627776) <|
  letK (([] : List ByteArray) ++ s_0) fun (t_6 : (List ByteArray)) =>
  some t_6)

set_option maxRecDepth 100000 in
set_option maxHeartbeats 2000000 in
theorem C (s_0 : (List ByteArray)) (A0 : Option Addr) (c0 : Nat)  (w : World) (M0 : Hid (Cells w 1 A0 s_0.length (s_0.map Value.string))) (N0 : Hid (s_0.length ≤ 9223372036854775807)) (Q0 : Hid (Room A0 s_0.length c0))  {r : (List ByteArray)} (H : Hid (P s_0 = some r)) :
    Calls Try.prog 29 #[.slice A0 s_0.length c0] w (fun e w' => ∃ A_r c_r, e = .returned (.slice A_r r.length c_r) ∧ w'.ownsRow w.heap.size 9 1 (.slice A_r r.length c_r) r.length (r.map Value.string) ∧ Below w.heap.size w w') := by
  have HB := Lib.hid (Below.refl w.heap.size w)
  unfold P at H
  have N0o := N0.out
  obtain ⟨i0_9, hi_9, hz0_9, hz1_9, hz2_9⟩ := Aid.info_parts (P := Try.prog) (T := 9) (z := .string ByteArray.empty) (s := 1) (b := 16) (by kernel_rfl)
  go_enter Try.func29, Try.ntmps29
  have mt_2 := Go.Proofs.Ythdmmoameoafmaa.GoK.nil_cells (l := s_0) (Cells.below M0.out HB.out) (fun h_ => by cases s_0 with | nil => rfl | cons y_ ys_ => simp [] at h_)
  obtain ⟨nt_2, ht_2⟩ : ∃ z_, (A0 : Option Addr).isNone = z_ := ⟨_, rfl⟩
  have rt_2 : ∀ W_, (binOp .eql 22 (.slice A0 s_0.length c0) (.slice none 0 0)).run Try.prog W_ = .ok (.bool nt_2) W_ := by intro W_; rw [← ht_2]; exact Lib.run_eql_slice_nil W_ _ _ _ _ _ _ _ Try.underlying22
  replace H := Go.Proofs.Ythdmmoameoafmaa.GoK.nilK_hid H nt_2 (by rw [← ht_2]; exact mt_2) (by intro h_; subst h_; rfl)
  clear mt_2 ht_2
  cases nt_2 with
  | false =>
    replace H := ite_f H
    obtain ⟨w_t_4, hw_t_4⟩ : ∃ x, w.alloc (.cells #[] 9) = x := ⟨_, rfl⟩
    have bw_t_4 : Below w.heap.size w w_t_4 := by rw [← hw_t_4]; exact (Below.refl _ _).alloc (Nat.le_refl _) _
    have Ot_4 : Hid (w_t_4.ownsRow w.heap.size 9 1 (.slice (some ⟨w.heap.size, 0, none⟩) 0 0) 0 []) := Lib.hid (by rw [← hw_t_4]; exact own_empty HB.out.size)
    have HBw_t_4 := Lib.hid (Below.step HB.out bw_t_4)
    clear bw_t_4
    replace H := guard_hid H
    obtain ⟨hlt_6, H⟩ := H
    replace H := let_hid H
    obtain ⟨t_6, ht_6, H⟩ := H
    have hht_6 := Lib.hid ht_6
    clear ht_6
    have hst_6 := HBw_t_4.out.size
    have Ct_6 := Lib.hid ((Cells.below M0.out HBw_t_4.out))
    go_wp2_with (at_builtin; refine append_spread rfl _ _ 22 rfl w.heap.size 9 i0_9 (.string ByteArray.empty) 1 16 Try.underlying22 hi_9 hz0_9 hz1_9 hz2_9 rfl (by decide) (some ⟨w.heap.size, 0, none⟩) 0 0 _ rfl Ot_4.out A0 s_0.length c0 (s_0.map Value.string) rfl Q0.out Ct_6.out (fun u hu => by obtain ⟨y_, _, rfl⟩ := List.mem_map.1 hu; rfl) (by unfold maxLen; simp only [List.length_nil] at hlt_6; omega) (by simp only [List.length_nil] at hlt_6; omega) hst_6 ?_; intro vt_6 wt_6 ot_6 gt_6 yt_6; obtain ⟨At_6, ct_6, rfl, pt_6⟩ := own_pushS (f := (fun z => z.map Value.string)) hht_6.out (by simp) rfl ot_6; have Pt_6 := Lib.hid pt_6; have Yt_6 := Lib.hid yt_6; have Gt_6 := Lib.hid gt_6; clear ot_6 gt_6 pt_6 yt_6; refine stop_in ?_)
    refine stop_out ?_
    clear Ct_6
    have HBwt_6 := Lib.hid (HBw_t_4.out.grown Gt_6.out hst_6 (fun q hq => (Ot_4.out.lt q hq).1))
    clear hst_6
    clear Ot_4 Yt_6 Gt_6
    obtain rfl := ret_hid H
    go_wp2_with fail
    go_ret
    exact ⟨At_6, ct_6, rfl, Pt_6.out, HBwt_6.out⟩
  | true =>
    replace H := ite_t H
    obtain rfl := ret_hid H
    go_wp2_with fail
    go_ret
    exact ⟨none, 0, rfl, own_nil, HB.out⟩
end Go.Proofs.Ythdmmoameoafmaa.GxSlicesCloneStringString

