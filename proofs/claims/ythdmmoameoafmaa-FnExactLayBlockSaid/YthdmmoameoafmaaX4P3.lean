/- Texts on which the proofs of several laws stand, one behind the other (3 of 5). No condition of their own. -/
import Derived.Test.YthdmmoameoafmaaChecked
import Derived.Test.YthdmmoameoafmaaX4P1
import Derived.Test.YthdmmoameoafmaaX4P2
import Derived.WalkKit
import Derived.WalkSpells
import Derived.WalkLawsBesides
import Derived.BigQuiet
import Derived.OwnWalk
import Derived.Deep.LoopGhost
import Derived.Deep.QuietTactic
import Derived.IntWalk
import Derived.Lib.QuietBelow
import Derived.Lib.Hide
import Derived.Outline
import Derived.Lib.ItoaLen
import Derived.Lib.ItoaMem
import Derived.Laws.IdiomStrings
import Derived.Deep.RegionHeld3
/- loop.example/g01062/impl.laidOn as a plain function, and the contract of the program's: where the plain one has an answer, the program has it. Conditions: slices read as lists. -/
namespace Go.Proofs.Ythdmmoameoafmaa.GiLaidOn
set_option linter.unusedVariables false
set_option linter.unusedSimpArgs false
open Go.RowKit
open Go.Proofs.Ythdmmoameoafmaa.Rowed Go.Proofs.Ythdmmoameoafmaa.Turn Go.Proofs.Ythdmmoameoafmaa.Aid Go.Proofs.Ythdmmoameoafmaa.GoP Go.Proofs.Ythdmmoameoafmaa.GoM Go.Proofs.Ythdmmoameoafmaa.GoB

def l1 (col : Int) (yt_11 : ByteArray) (k1 : Nat) (s : (List Int)) (nx1 bk1 : (List Int) → Option ((List ByteArray))) : Option ((List ByteArray)) :=
  letK s fun line_12l1 =>
  Option.bind (idx yt_11.toList (k1 : Int)) fun (yt_31 : UInt8) =>
  letK ((yt_31.toNat : Int)) fun (t_31 : Int) =>
  letK (t_31 != 46) fun (t_32 : Bool) =>
  iteK t_32
  (letK (IntKind.i64.wrap (col + (k1 : Int))) fun (t_36 : Int) =>
  Option.bind (idx yt_11.toList (k1 : Int)) fun (yt_39 : UInt8) =>
  letK ((yt_39.toNat : Int)) fun (t_39 : Int) =>
  Option.bind (idx line_12l1 t_36) fun (yt_40 : Int) =>
  letK (line_12l1.set (t_36).toNat t_39) fun (l41_41 : (List Int)) =>
  appK nx1 (l41_41))
  (appK nx1 (line_12l1))

def e1 (row_2 : Int) (nx0 : ((List ByteArray)) → Option ((List ByteArray))) (laid_9l0 : (List ByteArray)) (k0 : Nat) (s : (List Int)) : Option ((List ByteArray)) :=
  letK s fun line_12l1 =>
  letK (IntKind.i64.wrap (row_2 + (k0 : Int))) fun (t_47 : Int) =>
  letK (Go.Proofs.Ythdmmoameoafmaa.GoB.strK line_12l1) fun (t_49 : ByteArray) =>
  Option.bind (idx laid_9l0 t_47) fun (yt_50 : ByteArray) =>
  letK (laid_9l0.set (t_47).toNat t_49) fun (l51_51 : (List ByteArray)) =>
  appK nx0 (l51_51)

def l0 (b_rows : (List ByteArray)) (row_2 : Int) (col : Int) (k0 : Nat) (s : (List ByteArray)) (nx0 bk0 : (List ByteArray) → Option ((List ByteArray))) : Option ((List ByteArray)) :=
  letK s fun laid_9l0 =>
  Option.bind (idx b_rows (k0 : Int)) fun (yt_11 : ByteArray) =>
  letK (IntKind.i64.wrap (row_2 + (k0 : Int))) fun (t_18 : Int) =>
  Option.bind (idx laid_9l0 t_18) fun (yt_19 : ByteArray) =>
  guardK (yt_19.size ≤ 1099511627776) <|
  letK (yt_19.toList.map (fun b_ => (b_.toNat : Int))) fun (t_21 : (List Int)) =>
  guardK (yt_11.size ≤ 9223372036854775807) <|
  cntK (l1 col yt_11) (yt_11.size) 0 (t_21) (e1 row_2 nx0 laid_9l0 k0)

def e0  (s : (List ByteArray)) : Option ((List ByteArray)) :=
  letK s fun laid_9l0 =>
  some laid_9l0

def P (sheet : (List ByteArray)) (b_rows : (List ByteArray)) (row_2 : Int) (col : Int) : Option ((List ByteArray)) :=
  Option.bind (Go.Proofs.Ythdmmoameoafmaa.GxSlicesCloneStringString.P sheet) fun (t_3 : (List ByteArray)) =>
  cntK (l0 b_rows row_2 col) (b_rows.length) 0 (t_3) (e0 )

set_option maxRecDepth 100000 in
set_option maxHeartbeats 2000000 in
theorem C (sheet : (List ByteArray)) (b_rows : (List ByteArray)) (row_2 : Int) (col : Int) (A0 : Option Addr) (c0 : Nat) (A1_0 : Option Addr) (c1_0 : Nat)  (w : World) (M0 : Hid (Cells w 1 A0 sheet.length (sheet.map Value.string))) (N0 : Hid (sheet.length ≤ 9223372036854775807)) (Q0 : Hid (Room A0 sheet.length c0)) (M1_0 : Hid (Cells w 1 A1_0 b_rows.length (b_rows.map Value.string))) (N1_0 : Hid (b_rows.length ≤ 9223372036854775807)) (Q1_0 : Hid (Room A1_0 b_rows.length c1_0))  {r : (List ByteArray)} (H : Hid (P sheet b_rows row_2 col = some r)) :
    Calls Try.prog 22 #[.slice A0 sheet.length c0, .agg #[.slice A1_0 b_rows.length c1_0], .int .i64 row_2, .int .i64 col] w (fun e w' => ∃ A_r c_r, e = .returned (.slice A_r r.length c_r) ∧ w'.ownsRow w.heap.size 9 1 (.slice A_r r.length c_r) r.length (r.map Value.string) ∧ Below w.heap.size w w') := by
  have HB := Lib.hid (Below.refl w.heap.size w)
  unfold P at H
  have N0o := N0.out
  have N1_0o := N1_0.out
  go_enter Try.func22, Try.ntmps22
  obtain ⟨w_b_0, hw_b_0⟩ : ∃ x, w.alloc (.cells #[.slice A1_0 b_rows.length c1_0] 30) = x := ⟨_, rfl⟩
  have bw_b_0 : Below w.heap.size w w_b_0 := by rw [← hw_b_0]; exact (Below.refl _ _).alloc (Nat.le_refl _) _
  have HBw_b_0 := Lib.hid (Below.step HB.out bw_b_0)
  clear bw_b_0
  have kb_0_0 : w_b_0.cell? ⟨w.heap.size, 0, none⟩ = some (.slice A1_0 b_rows.length c1_0) := by rw [← hw_b_0]; exact box_new _ _ _ 0 _ rfl
  replace H := bind_hid H
  obtain ⟨t_3, qt_3, H⟩ := H
  go_wp2_with fail
  go_at_call 29
  refine (Go.Proofs.Ythdmmoameoafmaa.GxSlicesCloneStringString.C (sheet) A0 c0 _   (Lib.hid (Cells.below M0.out HBw_b_0.out)) N0 Q0 qt_3).mono ?_
  rintro e_t_3 wt_3 ⟨At_3, ct_3, rfl, ot_3, bt_3⟩
  have Dt_3_b_0 := Lib.hid (apart_callbox ot_3 kb_0_0)
  have Ot_3 := Lib.hid (own_lower ot_3 HBw_b_0.out.size)
  clear ot_3
  have HBwt_3 := Lib.hid (Below.step HBw_b_0.out bt_3)
  replace kb_0_0 := cell_below bt_3 kb_0_0
  clear bt_3
  go_wp2_with fail
  go_wp2_with fail
  go_loopg [19] (b_rows.length) (fun m_ v19_ wr => ∃ (k0 : Nat) (laid_9l0 : (List ByteArray)), k0 + m_ = b_rows.length ∧ v19_ = .int .i64 (k0 : Int) ∧ Hid (cntK (l0 b_rows row_2 col) m_ k0 (laid_9l0) (e0 ) = some r) ∧ Hid (Below w.heap.size w wr) ∧ wr.cell? ⟨w.heap.size, 0, none⟩ = some (.slice A1_0 b_rows.length c1_0) ∧ Hid (wr.ownsRow w.heap.size 9 1 (.slice At_3 t_3.length ct_3) t_3.length (laid_9l0.map Value.string)) ∧ Hid (laid_9l0.length = t_3.length) ∧ Hid (Apart At_3 (some ⟨w.heap.size, 0, none⟩)))
  case atStart => exact ⟨0, _, by omega, rfl, H, HBwt_3, kb_0_0, Ot_3, Lib.hid (rfl), Lib.hid Dt_3_b_0.out⟩
  case round =>
    obtain ⟨k0, laid_9l0, hkm0, rfl, H, HBwr0, kb_0_0, Olaid_9l0, hnlaid_9l0, Dlaid_9l0_b_0⟩ := hrel
    rename World => wr0
    cases gk with
    | zero =>
      obtain rfl : k0 = b_rows.length := by omega
      have hc0 : decide (((b_rows.length : Nat) : Int) < ((b_rows.length : Nat) : Int)) = false := by simp
      replace H := cnt_zero H
      unfold e0 at H
      replace H := let_hid H
      obtain ⟨_, rfl, H⟩ := H
      obtain rfl := ret_hid H
      go_wp2_with fail
      go_ret
      have hr_0 := hnlaid_9l0.out
      replace Olaid_9l0 := Lib.hid (own_len hr_0 Olaid_9l0.out)
      exact ⟨At_3, ct_3, (by first | (rw [hr_0]; done) | (rw [hr_0]; rfl)), Olaid_9l0.out, HBwr0.out⟩
    | succ m0 =>
      have hlt0 : k0 < b_rows.length := by omega
      have hc0 : decide ((k0 : Int) < ((b_rows.length : Nat) : Int)) = true := by simp; omega
      replace H := cnt_succ H
      unfold l0 at H
      replace H := let_hid H
      obtain ⟨_, rfl, H⟩ := H
      replace H := idx_hid H
      obtain ⟨nt_11, yt_11, et_11, lt_11, gt_11, H⟩ := H
      obtain rfl : k0 = nt_11 := by omega
      clear et_11
      obtain ⟨ab_t_11, ao_t_11, zt_11, At_11, z_t_11, ct_11_0⟩ := strs_at M1_0.out lt_11
      obtain rfl := Option.some.inj (gt_11.out.symm.trans z_t_11)
      subst At_11
      have ltt_11 := cell_lt ct_11_0
      replace ct_11_0 := cell_below HBwr0.out ct_11_0
      clear z_t_11
      have b0t_11 : (0 : Int) ≤ (k0 : Int) := by omega
      have b1t_11 : (k0 : Int) < ((b_rows.length : Nat) : Int) := by omega
      have b2t_11 : ((k0 : Int)).toNat = k0 := by omega
      replace H := let_hid H
      obtain ⟨t_18, ht_18, H⟩ := H
      replace H := idx_hid H
      obtain ⟨nt_19, yt_19, et_19, lt_19, gt_19, H⟩ := H
      subst et_19
      have hqt_19 := hnlaid_9l0.out
      obtain ⟨qt_19, Qt_19⟩ := own_some Olaid_9l0.out (by omega)
      subst Qt_19
      obtain ⟨ab_t_19, ao_t_19, zt_19, At_19, z_t_19, ct_19_0⟩ := strs_at (own_cells Olaid_9l0.out) (k := nt_19) (by omega)
      obtain rfl := Option.some.inj (gt_19.out.symm.trans z_t_19)
      simp only [Option.some.injEq, Addr.mk.injEq] at At_19
      obtain ⟨rfl, rfl, _⟩ := At_19
      clear z_t_19
      simp only [Nat.zero_add] at ct_19_0
      have b0t_19 : (0 : Int) ≤ (nt_19 : Int) := by omega
      have b1t_19 : (nt_19 : Int) < ((t_3.length : Nat) : Int) := by omega
      have b2t_19 : ((nt_19 : Int)).toNat = nt_19 := by omega
      clear hqt_19
      replace H := guard_hid H
      obtain ⟨hnt_21, H⟩ := H
      replace H := let_hid H
      obtain ⟨t_21, ht_21, H⟩ := H
      have Dt_21_laid_9l0 := Lib.hid (apart_fresh Olaid_9l0.out)
      have Dt_21_b_0 := Lib.hid (apart_box kb_0_0)
      obtain ⟨wt_21, ct_21, rt_21, ot_21, bt_21⟩ := Go.Proofs.Ythdmmoameoafmaa.GoB.conv_new (P := Try.prog) (w.heap.size) wr0 9 44 5 yt_19 Try.underlying9 Try.underlying44 Try.underlying5 HBwr0.out.size (by omega) ht_21
      have Ot_21 := Lib.hid ot_21
      clear ot_21
      have hht_21 := Lib.hid ht_21
      clear ht_21
      have HBwt_21 := Lib.hid (Below.step HBwr0.out bt_21)
      have kb_0_0__20 := cell_below bt_21 kb_0_0
      have ct_11_0__21 := cell_below bt_21 ct_11_0
      have ct_19_0__22 := cell_below bt_21 ct_19_0
      replace Olaid_9l0 := Lib.hid (own_below Olaid_9l0.out bt_21)
      clear bt_21
      replace H := guard_hid H
      obtain ⟨hg1, H⟩ := H
      go_wp2_with fail
      clear kb_0_0 ct_11_0 ct_19_0 rt_21
      go_wp2_with fail
      go_loopg [33] (yt_11.size) (fun m_ v33_ wr => ∃ (k1 : Nat) (line_12l1 : (List Int)), k1 + m_ = yt_11.size ∧ v33_ = .int .i64 (k1 : Int) ∧ Hid (cntK (l1 col yt_11) m_ k1 (line_12l1) (e1 row_2 (fun s' => cntK (l0 b_rows row_2 col) m0 (k0 + 1) s' (e0 )) laid_9l0 k0) = some r) ∧ Hid (Below w.heap.size w wr) ∧ wr.cell? ⟨w.heap.size, 0, none⟩ = some (.slice (some ⟨ab_t_11, ao_t_11, none⟩) b_rows.length c1_0) ∧ Hid (Go.Proofs.Ythdmmoameoafmaa.GoB.ownsB wr w.heap.size 5 1 (.slice (some ⟨wr0.heap.size, 0, none⟩) t_21.length ct_21) t_21.length (Go.Proofs.Ythdmmoameoafmaa.GoB.u8s line_12l1)) ∧ Hid (line_12l1.length = t_21.length) ∧ Hid (wr.ownsRow w.heap.size 9 1 (.slice (some ⟨qt_19, 0, none⟩) t_3.length ct_3) t_3.length (laid_9l0.map Value.string)) ∧ Hid (Apart (some ⟨wr0.heap.size, 0, none⟩) (some ⟨qt_19, 0, none⟩)) ∧ Hid (Apart (some ⟨wr0.heap.size, 0, none⟩) (some ⟨w.heap.size, 0, none⟩)))
      case atStart => exact ⟨0, _, by omega, rfl, H, HBwt_21, kb_0_0__20, Ot_21, Lib.hid (rfl), Olaid_9l0, Lib.hid Dt_21_laid_9l0.out, Lib.hid Dt_21_b_0.out⟩
      case round =>
        obtain ⟨k1, line_12l1, hkm1, rfl, H, HBwr1, kb_0_0__20, Oline_12l1, hnline_12l1, Olaid_9l0, Dline_12l1_laid_9l0, Dline_12l1_b_0⟩ := hrel
        rename World => wr1
        cases gk with
        | zero =>
          obtain rfl : k1 = yt_11.size := by omega
          have hc1 : decide (((yt_11.size : Nat) : Int) < ((yt_11.size : Nat) : Int)) = false := by simp
          replace H := cnt_zero H
          unfold e1 at H
          replace H := let_hid H
          obtain ⟨_, rfl, H⟩ := H
          replace H := let_hid H
          obtain ⟨t_47, ht_47, H⟩ := H
          obtain rfl := ht_18.symm.trans ht_47
          replace H := let_hid H
          obtain ⟨t_49, ht_49, H⟩ := H
          have rt_49 := Go.Proofs.Ythdmmoameoafmaa.GoB.conv_back (P := Try.prog) Try.underlying44 Try.underlying5 Try.underlying9 Oline_12l1.out ht_49
          have hht_49 := Lib.hid ht_49
          clear ht_49
          replace H := idx_hid H
          obtain ⟨nt_50, yt_50, et_50, lt_50, gt_50, H⟩ := H
          obtain rfl : nt_19 = nt_50 := by omega
          clear et_50
          have hqt_50 := hnlaid_9l0.out
          obtain ⟨ab_t_50, ao_t_50, zt_50, At_50, z_t_50, ct_50_0⟩ := strs_at (own_cells Olaid_9l0.out) (k := nt_19) (by omega)
          obtain rfl := Option.some.inj (gt_50.out.symm.trans z_t_50)
          simp only [Option.some.injEq, Addr.mk.injEq] at At_50
          obtain ⟨rfl, rfl, _⟩ := At_50
          clear z_t_50
          simp only [Nat.zero_add] at ct_50_0
          have b0t_50 : (0 : Int) ≤ (nt_19 : Int) := by omega
          have b1t_50 : (nt_19 : Int) < ((t_3.length : Nat) : Int) := by omega
          have b2t_50 : ((nt_19 : Int)).toNat = nt_19 := by omega
          clear hqt_50
          replace H := let_hid H
          obtain ⟨l51_51, hl51_51, H⟩ := H
          try simp only [Int.toNat_natCast] at hl51_51
          obtain ⟨wl51_51, hwl51_51⟩ : ∃ x, (wr1).setCell ⟨qt_19, nt_19, none⟩ (.string t_49) = x := ⟨_, rfl⟩
          have z0l51_51 := Olaid_9l0.out.frozenAt (nt_19)
          have Sl51_51 := Lib.hid (own_stores [(nt_19, .string t_49)] Olaid_9l0.out)
          have nl51_51 : Hid (l51_51.length = t_3.length) := Lib.hid (by rw [← hl51_51, List.length_set]; exact hnlaid_9l0.out)
          have Pl51_51 : Hid (wl51_51.ownsRow w.heap.size 9 1 (.slice (some ⟨qt_19, 0, none⟩) t_3.length ct_3) t_3.length (l51_51.map Value.string)) := Lib.hid (by have e_ : ([(nt_19, .string t_49)] : List (Nat × Value)).foldl (fun xs p => xs.set p.1 p.2) (laid_9l0.map Value.string) = (l51_51.map Value.string) := (by rw [← hl51_51]; first | done | simp [List.map_set]); rw [← hwl51_51, ← e_]; exact Sl51_51.out.1)
          have Gl51_51 : Hid (wr1.grownBy wl51_51 (Value.slice (some ⟨qt_19, 0, none⟩) t_3.length ct_3).ownBlock) := Lib.hid (by rw [← hwl51_51]; exact Sl51_51.out.2)
          have HBwl51_51 := Lib.hid (HBwr1.out.grown Gl51_51.out HBwr1.out.size (fun q hq => (Olaid_9l0.out.lt q hq).1))
          have hhl51_51 := Lib.hid hl51_51
          clear hl51_51 Sl51_51
          have kb_0_0__23 := cell_other kb_0_0__20 Gl51_51.out Dlaid_9l0_b_0.out
          replace Oline_12l1 := Lib.hid (own_other Oline_12l1.out Gl51_51.out (Apart.symm Dline_12l1_laid_9l0.out))
          clear Olaid_9l0 Gl51_51
          replace H := app_hid H
          go_wp2_with fail
          clear rt_49 z0l51_51 kb_0_0__20 ct_50_0
          go_roundg m0
          case measure => omega
          case rel => exact ⟨k0 + 1, _, by omega, by go_num, H, HBwl51_51, kb_0_0__23, Pl51_51, Lib.hid (nl51_51.out), Lib.hid Dlaid_9l0_b_0.out⟩
        | succ m1 =>
          have hlt1 : k1 < yt_11.size := by omega
          have hc1 : decide ((k1 : Int) < ((yt_11.size : Nat) : Int)) = true := by simp; omega
          replace H := cnt_succ H
          unfold l1 at H
          replace H := let_hid H
          obtain ⟨_, rfl, H⟩ := H
          replace H := idx_hid H
          obtain ⟨nt_31, yt_31, et_31, lt_31, gt_31, H⟩ := H
          obtain rfl : k1 = nt_31 := by omega
          clear et_31
          have rt_31 := byte_rule lt_31 gt_31.out
          have b0t_31 : (0 : Int) ≤ (k1 : Int) := by omega
          have b1t_31 : (k1 : Int) < (yt_11.size : Int) := by have := size_list yt_11; omega
          have b2t_31 : ((k1 : Int)).toNat = k1 := by omega
          have b3t_31 : k1 < yt_11.size := by have := size_list yt_11; omega
          replace H := let_hid H
          obtain ⟨t_31, ht_31, H⟩ := H
          replace H := let_hid H
          obtain ⟨t_32, ht_32, H⟩ := H
          cases t_32 with
          | false =>
            replace H := ite_f H
            replace H := app_hid H
            go_wp2_with fail
            go_roundg m1
            case measure => omega
            case rel => exact ⟨k1 + 1, _, by omega, by go_num, H, HBwr1, kb_0_0__20, Oline_12l1, Lib.hid (hnline_12l1.out), Olaid_9l0, Lib.hid Dline_12l1_laid_9l0.out, Lib.hid Dline_12l1_b_0.out⟩
          | true =>
            replace H := ite_t H
            replace H := let_hid H
            obtain ⟨t_36, ht_36, H⟩ := H
            replace H := idx_hid H
            obtain ⟨nt_39, yt_39, et_39, lt_39, gt_39, H⟩ := H
            obtain rfl : k1 = nt_39 := by omega
            clear et_39
            obtain rfl := Option.some.inj (gt_31.out.symm.trans gt_39.out)
            clear gt_39 lt_39
            replace H := let_hid H
            obtain ⟨t_39, ht_39, H⟩ := H
            obtain rfl := ht_31.symm.trans ht_39
            replace H := idx_hid H
            obtain ⟨nt_40, yt_40, et_40, lt_40, gt_40, H⟩ := H
            subst et_40
            have hqt_40 := hnline_12l1.out
            obtain ⟨ab_t_40, ao_t_40, zt_40, At_40, z_t_40, ct_40_0⟩ := Go.Proofs.Ythdmmoameoafmaa.GoB.u8_at (own_cells Oline_12l1.out) (k := nt_40) (by omega)
            obtain rfl := Option.some.inj (gt_40.out.symm.trans z_t_40)
            simp only [Option.some.injEq, Addr.mk.injEq] at At_40
            obtain ⟨rfl, rfl, _⟩ := At_40
            clear z_t_40
            simp only [Nat.zero_add] at ct_40_0
            have b0t_40 : (0 : Int) ≤ (nt_40 : Int) := by omega
            have b1t_40 : (nt_40 : Int) < ((t_21.length : Nat) : Int) := by omega
            have b2t_40 : ((nt_40 : Int)).toNat = nt_40 := by omega
            clear hqt_40
            replace H := let_hid H
            obtain ⟨l41_41, hl41_41, H⟩ := H
            try simp only [Int.toNat_natCast] at hl41_41
            obtain ⟨wl41_41, hwl41_41⟩ : ∃ x, (wr1).setCell ⟨wr0.heap.size, nt_40, none⟩ (.int .u8 t_31) = x := ⟨_, rfl⟩
            have z0l41_41 := Oline_12l1.out.frozenAt (nt_40) (by have hz_ := lt_40; have hy_ := hnline_12l1.out; omega)
            have Sl41_41 := Lib.hid (own_stores [(nt_40, .int .u8 t_31)] Oline_12l1.out)
            have nl41_41 : Hid (l41_41.length = t_21.length) := Lib.hid (by rw [← hl41_41, List.length_set]; exact hnline_12l1.out)
            have Pl41_41 : Hid (Go.Proofs.Ythdmmoameoafmaa.GoB.ownsB wl41_41 w.heap.size 5 1 (.slice (some ⟨wr0.heap.size, 0, none⟩) t_21.length ct_21) t_21.length (Go.Proofs.Ythdmmoameoafmaa.GoB.u8s l41_41)) := Lib.hid (by have e_ : ([(nt_40, .int .u8 t_31)] : List (Nat × Value)).foldl (fun xs p => xs.set p.1 p.2) (Go.Proofs.Ythdmmoameoafmaa.GoB.u8s line_12l1) = (Go.Proofs.Ythdmmoameoafmaa.GoB.u8s l41_41) := (by rw [← hl41_41]; first | done | simp [Go.Proofs.Ythdmmoameoafmaa.GoB.u8s, List.map_set]); rw [← hwl41_41, ← e_]; exact Sl41_41.out.1)
            have Gl41_41 : Hid (wr1.grownBy wl41_41 (Value.slice (some ⟨wr0.heap.size, 0, none⟩) t_21.length ct_21).ownBlock) := Lib.hid (by rw [← hwl41_41]; exact Sl41_41.out.2)
            have HBwl41_41 := Lib.hid (HBwr1.out.grown Gl41_41.out HBwr1.out.size (fun q hq => (Oline_12l1.out.lt q hq).1))
            have hhl41_41 := Lib.hid hl41_41
            clear hl41_41 Sl41_41
            have kb_0_0__24 := cell_other kb_0_0__20 Gl41_41.out Dline_12l1_b_0.out
            replace Olaid_9l0 := Lib.hid (own_other Olaid_9l0.out Gl41_41.out Dline_12l1_laid_9l0.out)
            clear Oline_12l1 Gl41_41
            replace H := app_hid H
            go_wp2_with fail
            clear z0l41_41 kb_0_0__20 ct_40_0
            go_roundg m1
            case measure => omega
            case rel => exact ⟨k1 + 1, _, by omega, by go_num, H, HBwl41_41, kb_0_0__24, Pl41_41, Lib.hid (nl41_41.out), Olaid_9l0, Lib.hid Dline_12l1_laid_9l0.out, Lib.hid Dline_12l1_b_0.out⟩
end Go.Proofs.Ythdmmoameoafmaa.GiLaidOn

/- loop.example/g01062/impl.LayBlock as a plain function, and the contract of the program's: where the plain one has an answer, the program has it. Conditions: slices read as lists. -/
namespace Go.Proofs.Ythdmmoameoafmaa.GiLayBlock
set_option linter.unusedVariables false
set_option linter.unusedSimpArgs false
open Go.RowKit
open Go.Proofs.Ythdmmoameoafmaa.Rowed Go.Proofs.Ythdmmoameoafmaa.Turn Go.Proofs.Ythdmmoameoafmaa.Aid Go.Proofs.Ythdmmoameoafmaa.GoP Go.Proofs.Ythdmmoameoafmaa.GoM

def P (sheet : (List ByteArray)) (b_rows : (List ByteArray)) (row_2 : Int) (col : Int) : Option ((List ByteArray) × Bool) :=
  Option.bind (Go.Proofs.Ythdmmoameoafmaa.GiIsSheet.P sheet) fun (t_4 : Bool) =>
  letK (!t_4) fun (t_5 : Bool) =>
  joinK (fun (t_10 : Bool) =>
  joinK (fun (t_18 : Bool) =>
  iteK t_18
  (some (([] : List ByteArray), false))
  (Option.bind (Go.Proofs.Ythdmmoameoafmaa.GiLaidOn.P sheet b_rows row_2 col) fun (t_26 : (List ByteArray)) =>
  some (t_26, true))) fun jt_18 => iteK t_10 (appK jt_18 true) (Option.bind (Go.Proofs.Ythdmmoameoafmaa.GiFits.P sheet b_rows row_2 col) fun (t_16 : Bool) =>
  letK (!t_16) fun (t_17 : Bool) =>
  appK jt_18 t_17)) fun jt_10 => iteK t_5 (appK jt_10 true) (Option.bind (Go.Proofs.Ythdmmoameoafmaa.GiIsBlock.P b_rows) fun (t_8 : Bool) =>
  letK (!t_8) fun (t_9 : Bool) =>
  appK jt_10 t_9)

set_option maxRecDepth 100000 in
set_option maxHeartbeats 2000000 in
theorem C (sheet : (List ByteArray)) (b_rows : (List ByteArray)) (row_2 : Int) (col : Int) (A0 : Option Addr) (c0 : Nat) (A1_0 : Option Addr) (c1_0 : Nat)  (w : World) (M0 : Hid (Cells w 1 A0 sheet.length (sheet.map Value.string))) (N0 : Hid (sheet.length ≤ 9223372036854775807)) (Q0 : Hid (Room A0 sheet.length c0)) (M1_0 : Hid (Cells w 1 A1_0 b_rows.length (b_rows.map Value.string))) (N1_0 : Hid (b_rows.length ≤ 9223372036854775807)) (Q1_0 : Hid (Room A1_0 b_rows.length c1_0))  {r0 : (List ByteArray)} {r1 : Bool} (H : Hid (P sheet b_rows row_2 col = some (r0, r1))) :
    Calls Try.prog 9 #[.slice A0 sheet.length c0, .agg #[.slice A1_0 b_rows.length c1_0], .int .i64 row_2, .int .i64 col] w (fun e w' => ∃ A_r0 c_r0, e = .returned (.tuple #[.slice A_r0 r0.length c_r0, .bool r1]) ∧ w'.ownsRow w.heap.size 9 1 (.slice A_r0 r0.length c_r0) r0.length (r0.map Value.string) ∧ Below w.heap.size w w') := by
  have HB := Lib.hid (Below.refl w.heap.size w)
  unfold P at H
  have N0o := N0.out
  have N1_0o := N1_0.out
  go_enter Try.func9, Try.ntmps9
  obtain ⟨w_b_0, hw_b_0⟩ : ∃ x, w.alloc (.cells #[.slice A1_0 b_rows.length c1_0] 30) = x := ⟨_, rfl⟩
  have bw_b_0 : Below w.heap.size w w_b_0 := by rw [← hw_b_0]; exact (Below.refl _ _).alloc (Nat.le_refl _) _
  have HBw_b_0 := Lib.hid (Below.step HB.out bw_b_0)
  clear bw_b_0
  have kb_0_0 : w_b_0.cell? ⟨w.heap.size, 0, none⟩ = some (.slice A1_0 b_rows.length c1_0) := by rw [← hw_b_0]; exact box_new _ _ _ 0 _ rfl
  replace H := bind_hid H
  obtain ⟨t_4, qt_4, H⟩ := H
  go_wp2_with fail
  go_at_call 19
  refine (Go.Proofs.Ythdmmoameoafmaa.GiIsSheet.C (sheet) A0 c0 _   (Lib.hid (Cells.below M0.out HBw_b_0.out)) N0 qt_4).mono ?_
  rintro e_t_4 wt_4 ⟨rfl, bt_4⟩
  have HBwt_4 := Lib.hid (Below.step HBw_b_0.out bt_4)
  replace kb_0_0 := cell_below bt_4 kb_0_0
  clear bt_4
  cases t_4 with
  | false =>
    replace H := let_hid H
    obtain ⟨t_5, ht_5, H⟩ := H
    obtain rfl : t_5 = true := ht_5.symm
    replace H := join_hid H
    replace H := ite_t H
    replace H := app_hid H
    replace H := join_hid H
    replace H := ite_t H
    replace H := app_hid H
    replace H := ite_t H
    obtain ⟨w_t_19, hw_t_19⟩ : ∃ x, wt_4.alloc (.cells #[] 9) = x := ⟨_, rfl⟩
    have bw_t_19 : Below wt_4.heap.size wt_4 w_t_19 := by rw [← hw_t_19]; exact (Below.refl _ _).alloc (Nat.le_refl _) _
    have Ot_19 : Hid (w_t_19.ownsRow w.heap.size 9 1 (.slice (some ⟨wt_4.heap.size, 0, none⟩) 0 0) 0 []) := Lib.hid (by rw [← hw_t_19]; exact own_empty HBwt_4.out.size)
    have Dt_19_b_0 := Lib.hid (apart_box kb_0_0)
    have HBw_t_19 := Lib.hid (Below.step HBwt_4.out bw_t_19)
    have kb_0_0__25 := cell_below bw_t_19 kb_0_0
    clear bw_t_19
    cases ret_hid H
    go_wp2_with fail
    go_ret2
    exact ⟨(some ⟨wt_4.heap.size, 0, none⟩), 0, rfl, Ot_19.out, HBw_t_19.out⟩
  | true =>
    replace H := let_hid H
    obtain ⟨t_5, ht_5, H⟩ := H
    obtain rfl : t_5 = false := ht_5.symm
    replace H := join_hid H
    replace H := ite_f H
    replace H := bind_hid H
    obtain ⟨t_8, qt_8, H⟩ := H
    go_wp2_with fail
    go_at_call 20
    refine (Go.Proofs.Ythdmmoameoafmaa.GiIsBlock.C (b_rows) A1_0 c1_0 _   (Lib.hid (Cells.below M1_0.out HBwt_4.out)) N1_0 qt_8).mono ?_
    rintro e_t_8 wt_8 ⟨rfl, bt_8⟩
    have HBwt_8 := Lib.hid (Below.step HBwt_4.out bt_8)
    replace kb_0_0 := cell_below bt_8 kb_0_0
    clear bt_8
    cases t_8 with
    | false =>
      replace H := let_hid H
      obtain ⟨t_9, ht_9, H⟩ := H
      obtain rfl : t_9 = true := ht_9.symm
      replace H := app_hid H
      replace H := join_hid H
      replace H := ite_t H
      replace H := app_hid H
      replace H := ite_t H
      obtain ⟨w_t_19, hw_t_19⟩ : ∃ x, wt_8.alloc (.cells #[] 9) = x := ⟨_, rfl⟩
      have bw_t_19 : Below wt_8.heap.size wt_8 w_t_19 := by rw [← hw_t_19]; exact (Below.refl _ _).alloc (Nat.le_refl _) _
      have Ot_19 : Hid (w_t_19.ownsRow w.heap.size 9 1 (.slice (some ⟨wt_8.heap.size, 0, none⟩) 0 0) 0 []) := Lib.hid (by rw [← hw_t_19]; exact own_empty HBwt_8.out.size)
      have Dt_19_b_0 := Lib.hid (apart_box kb_0_0)
      have HBw_t_19 := Lib.hid (Below.step HBwt_8.out bw_t_19)
      have kb_0_0__26 := cell_below bw_t_19 kb_0_0
      clear bw_t_19
      cases ret_hid H
      go_wp2_with fail
      go_ret2
      exact ⟨(some ⟨wt_8.heap.size, 0, none⟩), 0, rfl, Ot_19.out, HBw_t_19.out⟩
    | true =>
      replace H := let_hid H
      obtain ⟨t_9, ht_9, H⟩ := H
      obtain rfl : t_9 = false := ht_9.symm
      replace H := app_hid H
      replace H := join_hid H
      replace H := ite_f H
      replace H := bind_hid H
      obtain ⟨t_16, qt_16, H⟩ := H
      go_wp2_with fail
      go_at_call 21
      refine (Go.Proofs.Ythdmmoameoafmaa.GiFits.C (sheet) (b_rows) (row_2) (col) A0 c0 A1_0 c1_0 _   (Lib.hid (Cells.below M0.out HBwt_8.out)) N0 (Lib.hid (Cells.below M1_0.out HBwt_8.out)) N1_0 qt_16).mono ?_
      rintro e_t_16 wt_16 ⟨rfl, bt_16⟩
      have HBwt_16 := Lib.hid (Below.step HBwt_8.out bt_16)
      replace kb_0_0 := cell_below bt_16 kb_0_0
      clear bt_16
      cases t_16 with
      | false =>
        replace H := let_hid H
        obtain ⟨t_17, ht_17, H⟩ := H
        obtain rfl : t_17 = true := ht_17.symm
        replace H := app_hid H
        replace H := ite_t H
        obtain ⟨w_t_19, hw_t_19⟩ : ∃ x, wt_16.alloc (.cells #[] 9) = x := ⟨_, rfl⟩
        have bw_t_19 : Below wt_16.heap.size wt_16 w_t_19 := by rw [← hw_t_19]; exact (Below.refl _ _).alloc (Nat.le_refl _) _
        have Ot_19 : Hid (w_t_19.ownsRow w.heap.size 9 1 (.slice (some ⟨wt_16.heap.size, 0, none⟩) 0 0) 0 []) := Lib.hid (by rw [← hw_t_19]; exact own_empty HBwt_16.out.size)
        have Dt_19_b_0 := Lib.hid (apart_box kb_0_0)
        have HBw_t_19 := Lib.hid (Below.step HBwt_16.out bw_t_19)
        have kb_0_0__27 := cell_below bw_t_19 kb_0_0
        clear bw_t_19
        cases ret_hid H
        go_wp2_with fail
        go_ret2
        exact ⟨(some ⟨wt_16.heap.size, 0, none⟩), 0, rfl, Ot_19.out, HBw_t_19.out⟩
      | true =>
        replace H := let_hid H
        obtain ⟨t_17, ht_17, H⟩ := H
        obtain rfl : t_17 = false := ht_17.symm
        replace H := app_hid H
        replace H := ite_f H
        replace H := bind_hid H
        obtain ⟨t_26, qt_26, H⟩ := H
        go_wp2_with fail
        go_at_call 22
        refine (Go.Proofs.Ythdmmoameoafmaa.GiLaidOn.C (sheet) (b_rows) (row_2) (col) A0 c0 A1_0 c1_0 _   (Lib.hid (Cells.below M0.out HBwt_16.out)) N0 Q0 (Lib.hid (Cells.below M1_0.out HBwt_16.out)) N1_0 Q1_0 qt_26).mono ?_
        rintro e_t_26 wt_26 ⟨At_26, ct_26, rfl, ot_26, bt_26⟩
        have Dt_26_b_0 := Lib.hid (apart_callbox ot_26 kb_0_0)
        have Ot_26 := Lib.hid (own_lower ot_26 HBwt_16.out.size)
        clear ot_26
        have HBwt_26 := Lib.hid (Below.step HBwt_16.out bt_26)
        replace kb_0_0 := cell_below bt_26 kb_0_0
        clear bt_26
        cases ret_hid H
        go_wp2_with fail
        go_ret2
        exact ⟨At_26, ct_26, rfl, Ot_26.out, HBwt_26.out⟩
end Go.Proofs.Ythdmmoameoafmaa.GiLayBlock

/- loop.example/g01062/laws.eqStringS as a plain function, and the contract of the program's: where the plain one has an answer, the program has it. Conditions: slices read as lists. -/
namespace Go.Proofs.Ythdmmoameoafmaa.GlEqStringS
set_option linter.unusedVariables false
set_option linter.unusedSimpArgs false
open Go.RowKit
open Go.Proofs.Ythdmmoameoafmaa.Rowed Go.Proofs.Ythdmmoameoafmaa.Turn Go.Proofs.Ythdmmoameoafmaa.Aid Go.Proofs.Ythdmmoameoafmaa.GoP Go.Proofs.Ythdmmoameoafmaa.GoM

def l0 (a : (List ByteArray)) (b : (List ByteArray)) (k0 : Nat) (s : Unit) (nx0 bk0 : Unit → Option (Bool)) : Option (Bool) :=
  
  Option.bind (idx a (k0 : Int)) fun (yt_14 : ByteArray) =>
  Option.bind (idx b (k0 : Int)) fun (yt_18 : ByteArray) =>
  letK (!(yt_14.toList == yt_18.toList)) fun (t_20 : Bool) =>
  iteK t_20
  (some false)
  (appK nx0 ())

def e0  (s : Unit) : Option (Bool) :=
  
  some true

def P (a : (List ByteArray)) (b : (List ByteArray)) : Option (Bool) :=
  letK ((a.length : Int) != (b.length : Int)) fun (t_5 : Bool) =>
  iteK t_5
  (some false)
  (cntK (l0 a b) (a.length) 0 () (e0 ))

set_option maxRecDepth 100000 in
set_option maxHeartbeats 2000000 in
theorem C (a : (List ByteArray)) (b : (List ByteArray)) (A0 : Option Addr) (c0 : Nat) (A1 : Option Addr) (c1 : Nat)  (w : World) (M0 : Hid (Cells w 1 A0 a.length (a.map Value.string))) (N0 : Hid (a.length ≤ 9223372036854775807)) (M1 : Hid (Cells w 1 A1 b.length (b.map Value.string))) (N1 : Hid (b.length ≤ 9223372036854775807))  {r : Bool} (H : Hid (P a b = some r)) :
    Calls Try.prog 10 #[.slice A0 a.length c0, .slice A1 b.length c1] w (Gives (.bool r) w) := by
  have HB := Lib.hid (Below.refl w.heap.size w)
  unfold P at H
  have N0o := N0.out
  have N1o := N1.out
  go_enter Try.func10, Try.ntmps10
  replace H := let_hid H
  obtain ⟨t_5, ht_5, H⟩ := H
  cases t_5 with
  | false =>
    have Hht_5 : Hid (a.length = b.length) := Lib.hid (by have := bne_eq_false_iff_eq.1 ht_5; omega)
    have nht_5 : (a.length == b.length) = true := beq_iff_eq.2 Hht_5.out
    replace H := ite_f H
    go_wp2_with fail
    go_loopg [5] (a.length) (fun m_ v5_ wr => ∃ (k0 : Nat) , k0 + m_ = a.length ∧ v5_ = .int .i64 (k0 : Int) ∧ Hid (cntK (l0 a b) m_ k0 () (e0 ) = some r) ∧ Hid (Below w.heap.size w wr))
    case atStart => exact ⟨0, by omega, rfl, H, HB⟩
    case round =>
      obtain ⟨k0, hkm0, rfl, H, HBwr0⟩ := hrel
      rename World => wr0
      cases gk with
      | zero =>
        obtain rfl : k0 = a.length := by omega
        have hc0 : decide (((a.length : Nat) : Int) < ((a.length : Nat) : Int)) = false := by simp
        replace H := cnt_zero H
        unfold e0 at H
        obtain rfl := ret_hid H
        go_wp2_with fail
        go_ret
        exact ⟨rfl, HBwr0.out⟩
      | succ m0 =>
        have hlt0 : k0 < a.length := by omega
        have hc0 : decide ((k0 : Int) < ((a.length : Nat) : Int)) = true := by simp; omega
        replace H := cnt_succ H
        unfold l0 at H
        go_wp2_with fail
        replace H := idx_hid H
        obtain ⟨nt_14, yt_14, et_14, lt_14, gt_14, H⟩ := H
        obtain rfl : k0 = nt_14 := by omega
        clear et_14
        obtain ⟨ab_t_14, ao_t_14, zt_14, At_14, z_t_14, ct_14_0⟩ := strs_at M0.out lt_14
        obtain rfl := Option.some.inj (gt_14.out.symm.trans z_t_14)
        subst At_14
        have ltt_14 := cell_lt ct_14_0
        replace ct_14_0 := cell_below HBwr0.out ct_14_0
        clear z_t_14
        have b0t_14 : (0 : Int) ≤ (k0 : Int) := by omega
        have b1t_14 : (k0 : Int) < ((a.length : Nat) : Int) := by omega
        have b2t_14 : ((k0 : Int)).toNat = k0 := by omega
        have Hct_14_0 := Lib.hid ct_14_0
        replace ct_14_0 := cell_regrown ct_14_0
        replace H := idx_hid H
        obtain ⟨nt_18, yt_18, et_18, lt_18, gt_18, H⟩ := H
        obtain rfl : k0 = nt_18 := by omega
        clear et_18
        obtain ⟨ab_t_18, ao_t_18, zt_18, At_18, z_t_18, ct_18_0⟩ := strs_at M1.out lt_18
        obtain rfl := Option.some.inj (gt_18.out.symm.trans z_t_18)
        subst At_18
        have ltt_18 := cell_lt ct_18_0
        replace ct_18_0 := cell_below HBwr0.out ct_18_0
        clear z_t_18
        have b0t_18 : (0 : Int) ≤ (k0 : Int) := by omega
        have b1t_18 : (k0 : Int) < ((b.length : Nat) : Int) := by omega
        have b2t_18 : ((k0 : Int)).toNat = k0 := by omega
        have Hct_18_0 := Lib.hid ct_18_0
        replace ct_18_0 := cell_regrown ct_18_0
        replace H := let_hid H
        obtain ⟨t_20, ht_20, H⟩ := H
        refine wp_region_quiet_below (by kernel_rfl) (by kernel_rfl) ?_
        repeat (go_big_quiet_step (fail))
        refine wpQuiet_nil ?_
        intro Y6 hY6
        replace hY6 := below_class hY6
        replace ct_14_0 := Hct_14_0.out
        clear Hct_14_0
        replace ct_18_0 := Hct_18_0.out
        clear Hct_18_0
        have HBY6 := Lib.hid (Below.step HBwr0.out hY6)
        replace ct_14_0 := cell_below hY6 ct_14_0
        replace ct_18_0 := cell_below hY6 ct_18_0
        clear hY6
        cases t_20 with
        | false =>
          replace H := ite_f H
          replace H := app_hid H
          go_wp2_with fail
          go_roundg m0
          case measure => omega
          case rel => exact ⟨k0 + 1, by omega, by go_num, H, HBY6⟩
        | true =>
          replace H := ite_t H
          obtain rfl := ret_hid H
          go_wp2_with fail
          go_ret
          exact ⟨rfl, HBY6.out⟩
  | true =>
    have nht_5 : ¬ (a.length = b.length) := by have := bne_iff_ne.1 ht_5; omega
    replace H := ite_t H
    obtain rfl := ret_hid H
    go_wp2_with fail
    go_ret
    exact ⟨rfl, HB.out⟩
end Go.Proofs.Ythdmmoameoafmaa.GlEqStringS

/- loop.example/g01062/laws.eqBlock as a plain function, and the contract of the program's: where the plain one has an answer, the program has it. Conditions: slices read as lists. -/
namespace Go.Proofs.Ythdmmoameoafmaa.GlEqBlock
set_option linter.unusedVariables false
set_option linter.unusedSimpArgs false
open Go.RowKit
open Go.Proofs.Ythdmmoameoafmaa.Rowed Go.Proofs.Ythdmmoameoafmaa.Turn Go.Proofs.Ythdmmoameoafmaa.Aid Go.Proofs.Ythdmmoameoafmaa.GoP Go.Proofs.Ythdmmoameoafmaa.GoM

def P (a_rows : (List ByteArray)) (b_rows : (List ByteArray)) : Option (Bool) :=
  Option.bind (Go.Proofs.Ythdmmoameoafmaa.GlEqStringS.P a_rows b_rows) fun (t_7 : Bool) =>
  letK (!t_7) fun (t_8 : Bool) =>
  iteK t_8
  (some false)
  (some true)

set_option maxRecDepth 100000 in
set_option maxHeartbeats 2000000 in
theorem C (a_rows : (List ByteArray)) (b_rows : (List ByteArray)) (A0_0 : Option Addr) (c0_0 : Nat) (A1_0 : Option Addr) (c1_0 : Nat)  (w : World) (M0_0 : Hid (Cells w 1 A0_0 a_rows.length (a_rows.map Value.string))) (N0_0 : Hid (a_rows.length ≤ 9223372036854775807)) (M1_0 : Hid (Cells w 1 A1_0 b_rows.length (b_rows.map Value.string))) (N1_0 : Hid (b_rows.length ≤ 9223372036854775807))  {r : Bool} (H : Hid (P a_rows b_rows = some r)) :
    Calls Try.prog 11 #[.agg #[.slice A0_0 a_rows.length c0_0], .agg #[.slice A1_0 b_rows.length c1_0]] w (Gives (.bool r) w) := by
  have HB := Lib.hid (Below.refl w.heap.size w)
  unfold P at H
  have N0_0o := N0_0.out
  have N1_0o := N1_0.out
  go_enter Try.func11, Try.ntmps11
  obtain ⟨w_a_0, hw_a_0⟩ : ∃ x, w.alloc (.cells #[.slice A0_0 a_rows.length c0_0] 30) = x := ⟨_, rfl⟩
  have bw_a_0 : Below w.heap.size w w_a_0 := by rw [← hw_a_0]; exact (Below.refl _ _).alloc (Nat.le_refl _) _
  have HBw_a_0 := Lib.hid (Below.step HB.out bw_a_0)
  clear bw_a_0
  have ka_0_0 : w_a_0.cell? ⟨w.heap.size, 0, none⟩ = some (.slice A0_0 a_rows.length c0_0) := by rw [← hw_a_0]; exact box_new _ _ _ 0 _ rfl
  obtain ⟨w_b_1, hw_b_1⟩ : ∃ x, w_a_0.alloc (.cells #[.slice A1_0 b_rows.length c1_0] 30) = x := ⟨_, rfl⟩
  have bw_b_1 : Below w_a_0.heap.size w_a_0 w_b_1 := by rw [← hw_b_1]; exact (Below.refl _ _).alloc (Nat.le_refl _) _
  have HBw_b_1 := Lib.hid (Below.step HBw_a_0.out bw_b_1)
  have ka_0_0__28 := cell_below bw_b_1 ka_0_0
  clear bw_b_1
  have kb_1_0 : w_b_1.cell? ⟨w_a_0.heap.size, 0, none⟩ = some (.slice A1_0 b_rows.length c1_0) := by rw [← hw_b_1]; exact box_new _ _ _ 0 _ rfl
  replace H := bind_hid H
  obtain ⟨t_7, qt_7, H⟩ := H
  go_wp2_with fail
  clear ka_0_0
  go_at_call 10
  refine (Go.Proofs.Ythdmmoameoafmaa.GlEqStringS.C (a_rows) (b_rows) A0_0 c0_0 A1_0 c1_0 _   (Lib.hid (Cells.below M0_0.out HBw_b_1.out)) N0_0 (Lib.hid (Cells.below M1_0.out HBw_b_1.out)) N1_0 qt_7).mono ?_
  rintro e_t_7 wt_7 ⟨rfl, bt_7⟩
  have HBwt_7 := Lib.hid (Below.step HBw_b_1.out bt_7)
  replace ka_0_0__28 := cell_below bt_7 ka_0_0__28
  replace kb_1_0 := cell_below bt_7 kb_1_0
  clear bt_7
  cases t_7 with
  | false =>
    replace H := let_hid H
    obtain ⟨t_8, ht_8, H⟩ := H
    obtain rfl : t_8 = true := ht_8.symm
    replace H := ite_t H
    obtain rfl := ret_hid H
    go_wp2_with fail
    go_ret
    exact ⟨rfl, HBwt_7.out⟩
  | true =>
    replace H := let_hid H
    obtain ⟨t_8, ht_8, H⟩ := H
    obtain rfl : t_8 = false := ht_8.symm
    replace H := ite_f H
    obtain rfl := ret_hid H
    go_wp2_with fail
    go_ret
    exact ⟨rfl, HBwt_7.out⟩
end Go.Proofs.Ythdmmoameoafmaa.GlEqBlock

/- The contracts of the laws' helpers on slices of strings: szStringS, toStringS, eqStringS. Condition: the slice reads as a list of strings. -/
namespace Go.Proofs.Ythdmmoameoafmaa.HelpStr
set_option linter.unusedVariables false
open Go.RowKit
open Go.Proofs.Ythdmmoameoafmaa.Rowed

/-- how many bytes the strings hold together -/
def nbytes (l : List ByteArray) : Nat := (l.map ByteArray.size).sum
/-- szStringS: what is left of 'left' behind the strings and their number, or -1 where nothing is left -/
def SzPost (l : List ByteArray) (left : Int) (w : World) (e : Ending) (w' : World) : Prop :=
  ((0 ≤ left - (l.length : Int) - (nbytes l : Int) ∧ e = .returned (.int .i64 (left - (l.length : Int) - (nbytes l : Int)))) ∨ (left - (l.length : Int) - (nbytes l : Int) < 0 ∧ e = .returned (.int .i64 (-1)))) ∧ w = w'

/-- toStringS: a new row with the same strings -/
def ToPost (l : List ByteArray) (w : World) (e : Ending) (w' : World) : Prop :=
  ∃ g, e = .returned (.slice (some ⟨g, 0, none⟩) l.length l.length) ∧ w'.ownsRow w.heap.size 9 1 (.slice (some ⟨g, 0, none⟩) l.length l.length) l.length (l.map Value.string) ∧ Below w.heap.size w w'

def RelTo (l : List ByteArray) (ys : List Value) (w : World) (k : Nat) (wr : World) : Prop :=
  wr.ownsRow w.heap.size 9 1 (.slice (some ⟨w.heap.size, 0, none⟩) l.length l.length) l.length (fill (l.map Value.string) ys k) ∧ Below w.heap.size w wr

end Go.Proofs.Ythdmmoameoafmaa.HelpStr

/- The contracts of the laws' helpers that mark a slice of strings and look whether the marks are held: markText, markStringS, heldStringS. Conditions: the marks begin at 1 or more; the slice is one that the caller has made. -/
namespace Go.Proofs.Ythdmmoameoafmaa.MarkStr
set_option linter.unusedVariables false
open Go.RowKit
open Go.Proofs.Ythdmmoameoafmaa.Rowed Go.Proofs.Ythdmmoameoafmaa.HelpStr

/-- the mark of number k -/
def mt (k : Nat) : ByteArray := ⟨(109 :: Lib.decDigits k).toArray⟩

theorem ext_of {a b : ByteArray} (h : a.data.toList = b.data.toList) : a = b := by
  obtain ⟨⟨x⟩⟩ := a
  obtain ⟨⟨y⟩⟩ := b
  simp at h
  rw [h]
theorem add_str {P : Program} (a b c : ByteArray) (h : a.data.toList ++ b.data.toList = c.data.toList) (hl : c.data.toList.length ≤ 9223372036854775807) (W : World) :
    (Op.stringOp .add a b).run P W = .ok (.string c) W := by
  have e1 : a.data.toList.length = a.size := by simp
  have e2 : b.data.toList.length = b.size := by simp
  rw [← h, List.length_append, e1, e2] at hl
  rw [run_string_add_sum]
  · congr 2
    apply ext_of
    rw [← h]
    simp
  · exact hl
theorem dec_small (j : Nat) (h : j < 10) : Lib.decDigits j = [UInt8.ofNat (48 + j % 10)] := by
  rw [Lib.decDigits_one h, Nat.mod_eq_of_lt h]
theorem dec_step (j : Nat) (h : ¬ j < 10) : Lib.decDigits j = Lib.decDigits (j / 10) ++ [UInt8.ofNat (48 + j % 10)] := by
  rw [Lib.decDigits, dif_neg h]

/-- what is done when j is what is left: o -/
def Rel (k j : Nat) (o : List UInt8) : Prop := (if j = 0 then [] else Lib.decDigits j) ++ o = Lib.decDigits k
theorem Rel.next {k j : Nat} {o : List UInt8} (h : Rel k j o) (hj : 0 < j) : Rel k (j / 10) (UInt8.ofNat (48 + j % 10) :: o) := by
  unfold Rel at h ⊢
  rw [if_neg (by omega)] at h
  by_cases h10 : j < 10
  · rw [if_pos (by omega)]
    rw [dec_small j h10] at h
    exact h
  · rw [if_neg (by omega)]
    rw [dec_step j h10, List.append_assoc] at h
    exact h
theorem Rel.len {k j : Nat} {o : List UInt8} (h : Rel k j o) (hk : k ≤ 1000000000) : o.length ≤ 20 := by
  have h1 := congrArg List.length h
  rw [List.length_append, Lib.decDigits_length] at h1
  have := Lib.nDigits_le20 k (by omega)
  omega
theorem byte_num (j : Nat) : ((UInt8.ofNat (48 + j % 10)).toNat : Int) = 48 + (j : Int) % 10 := by
  rw [UInt8.toNat_ofNat']; omega

theorem conv_one {P : Program} (W : World) (src dst e : TypeId) (c : UInt8) (hs : P.underlying src = some (.slice e)) (he : P.underlying e = some (.int .u8)) (hd : P.underlying dst = some .string) :
    (convert src dst (.slice (some ⟨W.heap.size, 0, none⟩) 1 1)).run P (W.alloc (.cells #[.int .u8 (c.toNat : Int)] e)) = .ok (.string ⟨#[c]⟩) (W.alloc (.cells #[.int .u8 (c.toNat : Int)] e)) := by
  have := run_convert_bytes_back (P := P) (W.alloc (.cells #[.int .u8 (c.toNat : Int)] e)) src dst e ⟨W.heap.size, 0, none⟩ 1 [c] hs he hd (fun j hj => by
    have : j = 0 := by simpa using hj
    subst this
    rw [show (⟨W.heap.size, 0, none⟩ : Addr).add 0 = ⟨W.heap.size, 0, none⟩ from rfl, World.cell?_alloc_new]
    rfl)
  exact this

set_option maxHeartbeats 1000000 in
theorem markText_any (k : Nat) (w : World) (h1 : 1 ≤ k) (h2 : k ≤ 1000000000) :
    Calls Try.prog 23 #[.int .i64 (k : Int)] w fun e w' => e = .returned (.string (mt k)) ∧ Below w.heap.size w w' := by
  have hk0 : decide (k = 0) = false := by simp; omega
  go_enter Try.func23, Try.ntmps23
  go_wp2
  go_loopw [0, 3] (fun t o wr => ∃ (j : Nat) (q : ByteArray), j ≤ k ∧ t = .int .i64 j ∧ o = .string q ∧ Hid (Rel k j q.data.toList) ∧ Hid (Below w.heap.size w wr)) (fun t _ _ => (intOf t).toNat)
  case atStart => exact ⟨k, ⟨#[]⟩, Nat.le_refl _, rfl, rfl, Lib.hid (by unfold Rel; rw [if_neg (by omega)]; simp), Lib.hid (Below.refl _ _)⟩
  case round =>
    obtain ⟨j, q, hjk, rfl, rfl, HR, HB⟩ := hrel
    by_cases hj : 0 < j
    · obtain ⟨ch, hch, HN⟩ : ∃ ch : UInt8, (ch.toNat : Int) = 48 + (j : Int) % 10 ∧ Hid (Rel k (j / 10) (ch :: q.data.toList)) := ⟨_, byte_num j, HR.out.next hj⟩
      have hadd := add_str (P := Try.prog) ⟨#[ch]⟩ q ⟨(ch :: q.data.toList).toArray⟩ rfl (by have := HN.out.len h2; show (ch :: q.data.toList).length ≤ _; omega)
      have hcv := fun W => conv_one (P := Try.prog) W 44 9 5 ch Try.underlying44 Try.underlying5 Try.underlying9
      rw [hch] at hcv
      have HB3 := Lib.hid (HB.out.alloc HB.out.size (.cells #[.int .u8 (48 + (j : Int) % 10)] 5))
      clear hch
      go_wp2
      go_roundw
      case rel => exact ⟨j / 10, _, by omega, by go_num, rfl, HN, HB3⟩
      case measure => simp [intOf]; omega
    · obtain rfl : j = 0 := by omega
      have hfin : q.data.toList = Lib.decDigits k := HR.out
      have HF := Lib.hid hfin
      have hadd := add_str (P := Try.prog) ⟨#[109]⟩ q (mt k) (by unfold mt; rw [hfin]; rfl) (by have := HR.out.len h2; rw [hfin] at this; show (109 :: Lib.decDigits k).length ≤ _; rw [List.length_cons]; omega)
      clear hfin
      go_wp2
      go_ret
      exact ⟨rfl, HB.out⟩

/-- the marks k, k + 1, .. -/
def marks (k n : Nat) : List Value := (List.range n).map fun i => Value.string (mt (k + i))
theorem grown_of {W W' : World} (h : Below W.heap.size W W') : W.grownBy W' none := ⟨h.os, h.tape, h.output, h.size, fun k hk _ => h.block k hk⟩
theorem grown_weak {W W' : World} (h : W.grownBy W' none) (g : Nat) : W.grownBy W' (some g) := ⟨h.os, h.tape, h.output, h.size, fun k hk _ => h.block k hk (by simp)⟩
theorem grown_tr {a b c : World} {r : Option Nat} (h : a.grownBy b r) (k : b.grownBy c r) : a.grownBy c r :=
  ⟨k.os.trans h.os, k.tape.trans h.tape, k.output.trans h.output, Nat.le_trans h.size k.size, fun i hi hr => (k.block i (Nat.lt_of_lt_of_le hi h.size) hr).trans (h.block i hi hr)⟩

def MarkRel (w : World) (base g n c k : Nat) (xs : List Value) (i : Nat) (wr : World) : Prop :=
  wr.ownsRow base 9 1 (.slice (some ⟨g, 0, none⟩) n c) n (fill (marks k n) xs i) ∧ w.grownBy wr (some g)

def MarkPost (w : World) (base g n c k : Nat) (e : Ending) (w' : World) : Prop :=
  e = .returned (.int .i64 ((k + n : Nat) : Int)) ∧ w'.ownsRow base 9 1 (.slice (some ⟨g, 0, none⟩) n c) n (marks k n) ∧ w.grownBy w' (some g)

def HeldPost (w : World) (k n : Nat) (e : Ending) (w' : World) : Prop := e = .returned (.int .i64 ((k + n : Nat) : Int)) ∧ Below w.heap.size w w'

end Go.Proofs.Ythdmmoameoafmaa.MarkStr

/- markText as a plain function, from 1 to a billion; the contract of the program's. No condition. -/
namespace Go.Proofs.Ythdmmoameoafmaa.GlMarkText
set_option linter.unusedVariables false
open Go.RowKit
open Go.Proofs.Ythdmmoameoafmaa.Turn
def P (k : Int) : Option ByteArray := if 1 ≤ k ∧ k ≤ 1000000000 then some (Go.Proofs.Ythdmmoameoafmaa.MarkStr.mt k.toNat) else none
theorem C (k : Int) (w : World) {r : ByteArray} (H : Hid (P k = some r)) : Calls Try.prog 23 #[.int .i64 k] w (Gives (.string r) w) := by
  have h : P k = some r := H
  unfold P at h
  by_cases hk : 1 ≤ k ∧ k ≤ 1000000000
  · rw [if_pos hk] at h
    obtain rfl := Option.some.inj h
    obtain ⟨n, rfl⟩ := Int.eq_ofNat_of_zero_le (show 0 ≤ k by omega)
    exact Go.Proofs.Ythdmmoameoafmaa.MarkStr.markText_any n w (by omega) (by omega)
  · rw [if_neg hk] at h; simp at h
end Go.Proofs.Ythdmmoameoafmaa.GlMarkText

/- loop.example/g01062/laws.markStringS as a plain function, and the contract of the program's: where the plain one has an answer, the program has it. Conditions: slices read as lists. -/
namespace Go.Proofs.Ythdmmoameoafmaa.GlMarkStringS
set_option linter.unusedVariables false
set_option linter.unusedSimpArgs false
open Go.RowKit
open Go.Proofs.Ythdmmoameoafmaa.Rowed Go.Proofs.Ythdmmoameoafmaa.Turn Go.Proofs.Ythdmmoameoafmaa.Aid Go.Proofs.Ythdmmoameoafmaa.GoP Go.Proofs.Ythdmmoameoafmaa.GoM

def l0  (k0 : Nat) (s : (List ByteArray) × Int) (nx0 bk0 : (List ByteArray) × Int → Option (Int × (List ByteArray))) : Option (Int × (List ByteArray)) :=
  unp2 s fun a_0l0 k_1l0 =>
  Option.bind (Go.Proofs.Ythdmmoameoafmaa.GlMarkText.P k_1l0) fun (t_9 : ByteArray) =>
  Option.bind (idx a_0l0 (k0 : Int)) fun (yt_10 : ByteArray) =>
  letK (a_0l0.set k0 t_9) fun (l11_11 : (List ByteArray)) =>
  letK (IntKind.i64.wrap (k_1l0 + 1)) fun (t_13 : Int) =>
  appK nx0 (l11_11, t_13)

def e0  (s : (List ByteArray) × Int) : Option (Int × (List ByteArray)) :=
  unp2 s fun a_0l0 k_1l0 =>
  some (k_1l0, a_0l0)

def P (a : (List ByteArray)) (k_1 : Int) : Option (Int × (List ByteArray)) :=
  cntK (l0 ) (a.length) 0 (a, k_1) (e0 )

set_option maxRecDepth 100000 in
set_option maxHeartbeats 2000000 in
theorem C (a : (List ByteArray)) (k_1 : Int) (A0 : Option Addr) (c0 : Nat)  (b0 : Nat) (w : World) (M0 : Hid (w.ownsRow b0 9 1 (.slice A0 a.length c0) a.length (a.map Value.string))) (N0 : Hid (a.length ≤ 9223372036854775807))  {r : Int} {l_ : (List ByteArray)} (H : Hid (P a k_1 = some (r, l_))) :
    Calls Try.prog 12 #[.slice A0 a.length c0, .int .i64 k_1] w (fun e w' => e = .returned (.int .i64 r) ∧ w'.ownsRow b0 9 1 (.slice A0 a.length c0) a.length (l_.map Value.string) ∧ l_.length = a.length ∧ w.grownBy w' (Value.slice A0 a.length c0).ownBlock) := by
  have HB := Lib.hid (Aid.grown_refl w (Value.slice A0 a.length c0).ownBlock)
  unfold P at H
  have N0o := N0.out
  go_enter Try.func12, Try.ntmps12
  go_wp2_with fail
  have hb_0 : a.length ≤ 9223372036854775807 := own_max M0.out
  go_wp2_with fail
  go_loopg [5, 1] (a.length) (fun m_ v5_ v1_ wr => ∃ (k0 : Nat) (a_0l0 : (List ByteArray)) (k_1l0 : Int), k0 + m_ = a.length ∧ v5_ = .int .i64 (k0 : Int) ∧ v1_ = .int .i64 k_1l0 ∧ Hid (cntK (l0 ) m_ k0 (a_0l0, k_1l0) (e0 ) = some (r, l_)) ∧ Hid (w.grownBy wr (Value.slice A0 a.length c0).ownBlock) ∧ Hid (wr.ownsRow b0 9 1 (.slice A0 a.length c0) a.length (a_0l0.map Value.string)) ∧ Hid (a_0l0.length = a.length))
  case atStart => exact ⟨0, _, _, by omega, rfl, rfl, H, HB, M0, Lib.hid (rfl)⟩
  case round =>
    obtain ⟨k0, a_0l0, k_1l0, hkm0, rfl, rfl, H, HBwr0, Oa_0l0, hna_0l0⟩ := hrel
    rename World => wr0
    cases gk with
    | zero =>
      obtain rfl : k0 = a.length := by omega
      have hc0 : decide (((a.length : Nat) : Int) < ((a.length : Nat) : Int)) = false := by simp
      replace H := cnt_zero H
      unfold e0 at H
      replace H := unp2_hid H
      cases ret_hid H
      go_wp2_with fail
      go_ret
      exact ⟨rfl, Oa_0l0.out, hna_0l0.out, HBwr0.out⟩
    | succ m0 =>
      have hlt0 : k0 < a.length := by omega
      have hc0 : decide ((k0 : Int) < ((a.length : Nat) : Int)) = true := by simp; omega
      replace H := cnt_succ H
      unfold l0 at H
      replace H := unp2_hid H
      replace H := bind_hid H
      obtain ⟨t_9, qt_9, H⟩ := H
      go_wp2_with fail
      go_at_call 23
      refine (Go.Proofs.Ythdmmoameoafmaa.GlMarkText.C (k_1l0)  _    qt_9).mono ?_
      rintro e_t_9 wt_9 ⟨rfl, bt_9⟩
      have HBwt_9 := Lib.hid (grown_below HBwr0.out bt_9)
      replace Oa_0l0 := Lib.hid (own_below Oa_0l0.out bt_9)
      clear bt_9
      replace H := idx_hid H
      obtain ⟨nt_10, yt_10, et_10, lt_10, gt_10, H⟩ := H
      obtain rfl : k0 = nt_10 := by omega
      clear et_10
      have hqt_10 := hna_0l0.out
      obtain ⟨qt_10, Qt_10⟩ := own_some Oa_0l0.out (by omega)
      subst Qt_10
      obtain ⟨ab_t_10, ao_t_10, zt_10, At_10, z_t_10, ct_10_0⟩ := strs_at (own_cells Oa_0l0.out) (k := k0) (by omega)
      obtain rfl := Option.some.inj (gt_10.out.symm.trans z_t_10)
      simp only [Option.some.injEq, Addr.mk.injEq] at At_10
      obtain ⟨rfl, rfl, _⟩ := At_10
      clear z_t_10
      simp only [Nat.zero_add] at ct_10_0
      have b0t_10 : (0 : Int) ≤ (k0 : Int) := by omega
      have b1t_10 : (k0 : Int) < ((a.length : Nat) : Int) := by omega
      have b2t_10 : ((k0 : Int)).toNat = k0 := by omega
      clear hqt_10
      replace H := let_hid H
      obtain ⟨l11_11, hl11_11, H⟩ := H
      try simp only [Int.toNat_natCast] at hl11_11
      obtain ⟨wl11_11, hwl11_11⟩ : ∃ x, (wt_9).setCell ⟨qt_10, k0, none⟩ (.string t_9) = x := ⟨_, rfl⟩
      have z0l11_11 := Oa_0l0.out.frozenAt (k0)
      have Sl11_11 := Lib.hid (own_stores [(k0, .string t_9)] Oa_0l0.out)
      have nl11_11 : Hid (l11_11.length = a.length) := Lib.hid (by rw [← hl11_11, List.length_set]; exact hna_0l0.out)
      have Pl11_11 : Hid (wl11_11.ownsRow b0 9 1 (.slice (some ⟨qt_10, 0, none⟩) a.length c0) a.length (l11_11.map Value.string)) := Lib.hid (by have e_ : ([(k0, .string t_9)] : List (Nat × Value)).foldl (fun xs p => xs.set p.1 p.2) (a_0l0.map Value.string) = (l11_11.map Value.string) := (by rw [← hl11_11]; first | done | simp [List.map_set]); rw [← hwl11_11, ← e_]; exact Sl11_11.out.1)
      have Gl11_11 : Hid (wt_9.grownBy wl11_11 (Value.slice (some ⟨qt_10, 0, none⟩) a.length c0).ownBlock) := Lib.hid (by rw [← hwl11_11]; exact Sl11_11.out.2)
      have HBwl11_11 := Lib.hid (Aid.grown_tr HBwt_9.out Gl11_11.out)
      have hhl11_11 := Lib.hid hl11_11
      clear hl11_11 Sl11_11
      clear Oa_0l0 Gl11_11
      replace H := let_hid H
      obtain ⟨t_13, ht_13, H⟩ := H
      replace H := app_hid H
      go_wp2_with fail
      clear z0l11_11 ct_10_0
      go_roundg m0
      case measure => omega
      case rel => exact ⟨k0 + 1, _, _, by omega, by go_num, rfl, H, HBwl11_11, Pl11_11, Lib.hid (nl11_11.out)⟩
end Go.Proofs.Ythdmmoameoafmaa.GlMarkStringS

/- loop.example/g01062/laws.markBlock as a plain function, and the contract of the program's: where the plain one has an answer, the program has it. Conditions: slices read as lists. -/
namespace Go.Proofs.Ythdmmoameoafmaa.GlMarkBlock
set_option linter.unusedVariables false
set_option linter.unusedSimpArgs false
open Go.RowKit
open Go.Proofs.Ythdmmoameoafmaa.Rowed Go.Proofs.Ythdmmoameoafmaa.Turn Go.Proofs.Ythdmmoameoafmaa.Aid Go.Proofs.Ythdmmoameoafmaa.GoP Go.Proofs.Ythdmmoameoafmaa.GoM

def P (a_rows : (List ByteArray)) (k_1 : Int) : Option (Int × (List ByteArray)) :=
  bind2 (Go.Proofs.Ythdmmoameoafmaa.GlMarkStringS.P a_rows k_1) fun (t_5 : Int) (lt_5 : (List ByteArray)) =>
  some (t_5, lt_5)

set_option maxRecDepth 100000 in
set_option maxHeartbeats 2000000 in
theorem C (a_rows : (List ByteArray)) (k_1 : Int) (A0_0 : Option Addr) (c0_0 : Nat)  (b0 : Nat) (w : World) (M0_0 : Hid (w.ownsRow b0 9 1 (.slice A0_0 a_rows.length c0_0) a_rows.length (a_rows.map Value.string))) (N0_0 : Hid (a_rows.length ≤ 9223372036854775807))  {r : Int} {l_ : (List ByteArray)} (H : Hid (P a_rows k_1 = some (r, l_))) :
    Calls Try.prog 13 #[.agg #[.slice A0_0 a_rows.length c0_0], .int .i64 k_1] w (fun e w' => e = .returned (.int .i64 r) ∧ w'.ownsRow b0 9 1 (.slice A0_0 a_rows.length c0_0) a_rows.length (l_.map Value.string) ∧ l_.length = a_rows.length ∧ w.grownBy w' (Value.slice A0_0 a_rows.length c0_0).ownBlock) := by
  have HB := Lib.hid (Aid.grown_refl w (Value.slice A0_0 a_rows.length c0_0).ownBlock)
  unfold P at H
  have N0_0o := N0_0.out
  go_enter Try.func13, Try.ntmps13
  obtain ⟨w_a_0, hw_a_0⟩ : ∃ x, w.alloc (.cells #[.slice A0_0 a_rows.length c0_0] 30) = x := ⟨_, rfl⟩
  have bw_a_0 : Below w.heap.size w w_a_0 := by rw [← hw_a_0]; exact (Below.refl _ _).alloc (Nat.le_refl _) _
  have Da_0_io0 := Lib.hid (apart_fresh M0_0.out)
  have HBw_a_0 := Lib.hid (grown_below HB.out bw_a_0)
  replace M0_0 := Lib.hid (own_below M0_0.out bw_a_0)
  clear bw_a_0
  have ka_0_0 : w_a_0.cell? ⟨w.heap.size, 0, none⟩ = some (.slice A0_0 a_rows.length c0_0) := by rw [← hw_a_0]; exact box_new _ _ _ 0 _ rfl
  replace H := bind2_hid H
  obtain ⟨t_5, lt_5, qt_5, H⟩ := H
  go_wp2_with fail
  go_at_call 12
  refine (Go.Proofs.Ythdmmoameoafmaa.GlMarkStringS.C (a_rows) (k_1) A0_0 c0_0 b0 _   M0_0 (Lib.hid (own_max M0_0.out))   qt_5).mono ?_
  rintro e_t_5 wt_5 ⟨rfl, ot_5, nt_5, gt_5⟩
  have Pt_5 := Lib.hid ot_5
  have Gt_5 := Lib.hid gt_5
  replace nt_5 := Lib.hid nt_5
  clear ot_5 gt_5
  have HBwt_5 := Lib.hid (Aid.grown_tr HBw_a_0.out Gt_5.out)
  replace ka_0_0 := cell_other ka_0_0 Gt_5.out (Apart.symm Da_0_io0.out)
  clear M0_0 Gt_5
  cases ret_hid H
  go_wp2_with fail
  go_ret
  exact ⟨rfl, Pt_5.out, nt_5.out, HBwt_5.out⟩
end Go.Proofs.Ythdmmoameoafmaa.GlMarkBlock

/- loop.example/g01062/laws.heldStringS as a plain function, and the contract of the program's: where the plain one has an answer, the program has it. Conditions: slices read as lists. -/
namespace Go.Proofs.Ythdmmoameoafmaa.GlHeldStringS
set_option linter.unusedVariables false
set_option linter.unusedSimpArgs false
open Go.RowKit
open Go.Proofs.Ythdmmoameoafmaa.Rowed Go.Proofs.Ythdmmoameoafmaa.Turn Go.Proofs.Ythdmmoameoafmaa.Aid Go.Proofs.Ythdmmoameoafmaa.GoP Go.Proofs.Ythdmmoameoafmaa.GoM

def l0 (a : (List ByteArray)) (k0 : Nat) (s : Int) (nx0 bk0 : Int → Option (Int)) : Option (Int) :=
  letK s fun k_1l0 =>
  Option.bind (idx a (k0 : Int)) fun (yt_8 : ByteArray) =>
  Option.bind (Go.Proofs.Ythdmmoameoafmaa.GlMarkText.P k_1l0) fun (t_11 : ByteArray) =>
  letK (!(yt_8.toList == t_11.toList)) fun (t_12 : Bool) =>
  iteK t_12
  (some (-1))
  (letK (IntKind.i64.wrap (k_1l0 + 1)) fun (t_15 : Int) =>
  appK nx0 (t_15))

def e0  (s : Int) : Option (Int) :=
  letK s fun k_1l0 =>
  some k_1l0

def P (a : (List ByteArray)) (k_1 : Int) : Option (Int) :=
  cntK (l0 a) (a.length) 0 (k_1) (e0 )

set_option maxRecDepth 100000 in
set_option maxHeartbeats 2000000 in
theorem C (a : (List ByteArray)) (k_1 : Int) (A0 : Option Addr) (c0 : Nat)  (w : World) (M0 : Hid (Cells w 1 A0 a.length (a.map Value.string))) (N0 : Hid (a.length ≤ 9223372036854775807))  {r : Int} (H : Hid (P a k_1 = some r)) :
    Calls Try.prog 14 #[.slice A0 a.length c0, .int .i64 k_1] w (Gives (.int .i64 r) w) := by
  have HB := Lib.hid (Below.refl w.heap.size w)
  unfold P at H
  have N0o := N0.out
  go_enter Try.func14, Try.ntmps14
  go_wp2_with fail
  go_loopg [5, 1] (a.length) (fun m_ v5_ v1_ wr => ∃ (k0 : Nat) (k_1l0 : Int), k0 + m_ = a.length ∧ v5_ = .int .i64 (k0 : Int) ∧ v1_ = .int .i64 k_1l0 ∧ Hid (cntK (l0 a) m_ k0 (k_1l0) (e0 ) = some r) ∧ Hid (Below w.heap.size w wr))
  case atStart => exact ⟨0, _, by omega, rfl, rfl, H, HB⟩
  case round =>
    obtain ⟨k0, k_1l0, hkm0, rfl, rfl, H, HBwr0⟩ := hrel
    rename World => wr0
    cases gk with
    | zero =>
      obtain rfl : k0 = a.length := by omega
      have hc0 : decide (((a.length : Nat) : Int) < ((a.length : Nat) : Int)) = false := by simp
      replace H := cnt_zero H
      unfold e0 at H
      replace H := let_hid H
      obtain ⟨_, rfl, H⟩ := H
      obtain rfl := ret_hid H
      go_wp2_with fail
      go_ret
      exact ⟨rfl, HBwr0.out⟩
    | succ m0 =>
      have hlt0 : k0 < a.length := by omega
      have hc0 : decide ((k0 : Int) < ((a.length : Nat) : Int)) = true := by simp; omega
      replace H := cnt_succ H
      unfold l0 at H
      replace H := let_hid H
      obtain ⟨_, rfl, H⟩ := H
      go_wp2_with fail
      replace H := idx_hid H
      obtain ⟨nt_8, yt_8, et_8, lt_8, gt_8, H⟩ := H
      obtain rfl : k0 = nt_8 := by omega
      clear et_8
      obtain ⟨ab_t_8, ao_t_8, zt_8, At_8, z_t_8, ct_8_0⟩ := strs_at M0.out lt_8
      obtain rfl := Option.some.inj (gt_8.out.symm.trans z_t_8)
      subst At_8
      have ltt_8 := cell_lt ct_8_0
      replace ct_8_0 := cell_below HBwr0.out ct_8_0
      clear z_t_8
      have b0t_8 : (0 : Int) ≤ (k0 : Int) := by omega
      have b1t_8 : (k0 : Int) < ((a.length : Nat) : Int) := by omega
      have b2t_8 : ((k0 : Int)).toNat = k0 := by omega
      have Hct_8_0 := Lib.hid ct_8_0
      replace ct_8_0 := cell_regrown ct_8_0
      replace H := bind_hid H
      obtain ⟨t_11, qt_11, H⟩ := H
      have nt_11 : ∀ d os, Calls Try.prog 23 #[.int .i64 k_1l0] (Go.Sort.grow (redrawn wr0 d) os) fun e w'' => e = .returned (.string t_11) ∧ ∃ p : Regrown, w'' = Go.Sort.grow (redrawn wr0 p.d) p.os := fun d os => Calls.regrown_of (Go.Proofs.Ythdmmoameoafmaa.GlMarkText.C (k_1l0)  _    qt_11)
      replace H := let_hid H
      obtain ⟨t_12, ht_12, H⟩ := H
      refine wp_region_quiet_below (by kernel_rfl) (by kernel_rfl) ?_
      repeat (go_big_quiet_step (first | (go_at_call 23; exact nt_11 _ _)))
      refine wpQuiet_nil ?_
      intro Y4 hY4
      replace hY4 := below_class hY4
      clear nt_11
      replace ct_8_0 := Hct_8_0.out
      clear Hct_8_0
      have HBY4 := Lib.hid (Below.step HBwr0.out hY4)
      replace ct_8_0 := cell_below hY4 ct_8_0
      clear hY4
      cases t_12 with
      | false =>
        replace H := ite_f H
        replace H := let_hid H
        obtain ⟨t_15, ht_15, H⟩ := H
        replace H := app_hid H
        go_wp2_with fail
        go_roundg m0
        case measure => omega
        case rel => exact ⟨k0 + 1, _, by omega, by go_num, rfl, H, HBY4⟩
      | true =>
        replace H := ite_t H
        obtain rfl := ret_hid H
        go_wp2_with fail
        go_ret
        exact ⟨rfl, HBY4.out⟩
end Go.Proofs.Ythdmmoameoafmaa.GlHeldStringS

