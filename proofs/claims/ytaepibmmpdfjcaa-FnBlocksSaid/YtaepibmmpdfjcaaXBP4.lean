/- Texts on which the proofs of several laws stand, one behind the other (4 of 9). No condition of their own. -/
import Derived.Test.YtaepibmmpdfjcaaChecked
import Derived.Test.YtaepibmmpdfjcaaXBP1
import Derived.Test.YtaepibmmpdfjcaaXBP2
import Derived.WalkKit
import Derived.WalkSpells
import Derived.WalkLawsBesides
import Derived.BigQuiet
import Derived.OwnWalk
import Derived.Deep.LoopGhost
import Derived.Deep.QuietTactic
import Derived.IntWalk
import Derived.Lib.QuietBelow
import Derived.Laws.StructEq
import Derived.ChangeKeysEq
import Derived.Lib.ConvBytes
import Derived.Laws.BytesString
import Derived.Laws.IdiomStrings
import Derived.Laws.BytesArg
import Derived.Lib.Hide
import Derived.Lib.LaidU8
import Derived.Outline
import Derived.Lib.SliceRun
import Derived.Test.YtaepibmmpdfjcaaXBP3
/- loop.example/g01062/spec.l4Places as a plain function, and the contract of the program's: where the plain one has an answer, the program has it. Conditions: slices read as lists. -/
namespace Go.Proofs.Ytaepibmmpdfjcaa.GsL4Places
set_option linter.unusedVariables false
set_option linter.unusedSimpArgs false
open Go.RowKit
open Go.Proofs.Ytaepibmmpdfjcaa.Rowed Go.Proofs.Ytaepibmmpdfjcaa.Turn Go.Proofs.Ytaepibmmpdfjcaa.Aid Go.Proofs.Ytaepibmmpdfjcaa.GoP Go.Proofs.Ytaepibmmpdfjcaa.GoM

def l1 (sheet : (List ByteArray)) (b_rows : (List ByteArray)) (fuel : Nat) (k0 : Nat) (s : (List Go.Proofs.Ytaepibmmpdfjcaa.PIntA2.IntA2) × Int) (nx1 bk1 : (List Go.Proofs.Ytaepibmmpdfjcaa.PIntA2.IntA2) × Int → Option ((List Go.Proofs.Ytaepibmmpdfjcaa.PIntA2.IntA2))) : Option ((List Go.Proofs.Ytaepibmmpdfjcaa.PIntA2.IntA2)) :=
  unp2 s fun out_5l1 col_7l1 =>
  Option.bind (idx sheet 0) fun (yt_12 : ByteArray) =>
  letK (decide (col_7l1 < (yt_12.size : Int))) fun (t_15 : Bool) =>
  iteK t_15
  (Option.bind (Go.Proofs.Ytaepibmmpdfjcaa.GsL4Fits.P fuel sheet b_rows (k0 : Int) col_7l1) fun (t_20 : Bool) =>
  iteK t_20
  (guardK (out_5l1.length ≤ 1099511627776) <|
  letK (out_5l1 ++ [(Go.Proofs.Ytaepibmmpdfjcaa.PIntA2.IntA2.mk (k0 : Int) col_7l1)]) fun (t_26 : (List Go.Proofs.Ytaepibmmpdfjcaa.PIntA2.IntA2)) =>
  letK (IntKind.i64.wrap (col_7l1 + 1)) fun (t_29 : Int) =>
  appK nx1 (t_26, t_29))
  (letK (IntKind.i64.wrap (col_7l1 + 1)) fun (t_29 : Int) =>
  appK nx1 (out_5l1, t_29)))
  (appK bk1 (out_5l1, col_7l1))

def e1 (nx0 : ((List Go.Proofs.Ytaepibmmpdfjcaa.PIntA2.IntA2)) → Option ((List Go.Proofs.Ytaepibmmpdfjcaa.PIntA2.IntA2))) (s : (List Go.Proofs.Ytaepibmmpdfjcaa.PIntA2.IntA2) × Int) : Option ((List Go.Proofs.Ytaepibmmpdfjcaa.PIntA2.IntA2)) :=
  unp2 s fun out_5l1 col_7l1 =>
  appK nx0 (out_5l1)

def l0 (sheet : (List ByteArray)) (b_rows : (List ByteArray)) (fuel : Nat) (k0 : Nat) (s : (List Go.Proofs.Ytaepibmmpdfjcaa.PIntA2.IntA2)) (nx0 bk0 : (List Go.Proofs.Ytaepibmmpdfjcaa.PIntA2.IntA2) → Option ((List Go.Proofs.Ytaepibmmpdfjcaa.PIntA2.IntA2))) : Option ((List Go.Proofs.Ytaepibmmpdfjcaa.PIntA2.IntA2)) :=
  letK s fun out_5l0 =>
  loopK (l1 sheet b_rows fuel k0) fuel (out_5l0, 0) (e1 nx0)

def e0  (s : (List Go.Proofs.Ytaepibmmpdfjcaa.PIntA2.IntA2)) : Option ((List Go.Proofs.Ytaepibmmpdfjcaa.PIntA2.IntA2)) :=
  letK s fun out_5l0 =>
  some out_5l0

def P (fuel : Nat) (sheet : (List ByteArray)) (b_rows : (List ByteArray)) : Option ((List Go.Proofs.Ytaepibmmpdfjcaa.PIntA2.IntA2)) :=
  cntK (l0 sheet b_rows fuel) (sheet.length) 0 (([] : List Go.Proofs.Ytaepibmmpdfjcaa.PIntA2.IntA2)) (e0 )

set_option maxRecDepth 100000 in
set_option maxHeartbeats 2000000 in
theorem C (fuel : Nat) (sheet : (List ByteArray)) (b_rows : (List ByteArray)) (A0 : Option Addr) (c0 : Nat) (A1_0 : Option Addr) (c1_0 : Nat)  (w : World) (M0 : Hid (Cells w 1 A0 sheet.length (sheet.map Value.string))) (N0 : Hid (sheet.length ≤ 9223372036854775807)) (M1_0 : Hid (Cells w 1 A1_0 b_rows.length (b_rows.map Value.string))) (N1_0 : Hid (b_rows.length ≤ 9223372036854775807))  {r : (List Go.Proofs.Ytaepibmmpdfjcaa.PIntA2.IntA2)} (H : Hid (P fuel sheet b_rows = some r)) :
    Calls Try.prog 54 #[.slice A0 sheet.length c0, .agg #[.slice A1_0 b_rows.length c1_0]] w (fun e w' => ∃ A_r c_r, e = .returned (.slice A_r r.length c_r) ∧ w'.ownsRow w.heap.size 37 2 (.slice A_r r.length c_r) r.length (Go.Proofs.Ytaepibmmpdfjcaa.PIntA2.flat r) ∧ Below w.heap.size w w') := by
  have HB := Lib.hid (Below.refl w.heap.size w)
  unfold P at H
  have N0o := N0.out
  have N1_0o := N1_0.out
  obtain ⟨i0_37, hi_37, hz0_37, hz1_37, hz2_37⟩ := Aid.info_parts (P := Try.prog) (T := 37) (z := .agg #[.int .i64 0, .int .i64 0]) (s := 2) (b := 16) (by kernel_rfl)
  go_enter Try.func54, Try.ntmps54
  obtain ⟨w_b_0, hw_b_0⟩ : ∃ x, w.alloc (.cells #[.slice A1_0 b_rows.length c1_0] 26) = x := ⟨_, rfl⟩
  have bw_b_0 : Below w.heap.size w w_b_0 := by rw [← hw_b_0]; exact (Below.refl _ _).alloc (Nat.le_refl _) _
  have HBw_b_0 := Lib.hid (Below.step HB.out bw_b_0)
  clear bw_b_0
  have kb_0_0 : w_b_0.cell? ⟨w.heap.size, 0, none⟩ = some (.slice A1_0 b_rows.length c1_0) := by rw [← hw_b_0]; exact box_new _ _ _ 0 _ rfl
  obtain ⟨w_t_2, hw_t_2⟩ : ∃ x, w_b_0.alloc (.cells #[] 37) = x := ⟨_, rfl⟩
  have bw_t_2 : Below w_b_0.heap.size w_b_0 w_t_2 := by rw [← hw_t_2]; exact (Below.refl _ _).alloc (Nat.le_refl _) _
  have Ot_2 : Hid (w_t_2.ownsRow w.heap.size 37 2 (.slice (some ⟨w_b_0.heap.size, 0, none⟩) 0 0) 0 []) := Lib.hid (by rw [← hw_t_2]; exact own_empty HBw_b_0.out.size)
  have Dt_2_b_0 := Lib.hid (apart_box kb_0_0)
  have HBw_t_2 := Lib.hid (Below.step HBw_b_0.out bw_t_2)
  have kb_0_0__25 := cell_below bw_t_2 kb_0_0
  clear bw_t_2
  go_wp2_with fail
  clear kb_0_0
  go_loopg [6, 5] (sheet.length) (fun m_ v6_ v5_ wr => ∃ (k0 : Nat) (out_5l0 : (List Go.Proofs.Ytaepibmmpdfjcaa.PIntA2.IntA2)) (Aout_5l0 : Option Addr) (cout_5l0 : Nat), k0 + m_ = sheet.length ∧ v6_ = .int .i64 (k0 : Int) ∧ v5_ = .slice Aout_5l0 out_5l0.length cout_5l0 ∧ Hid (cntK (l0 sheet b_rows fuel) m_ k0 (out_5l0) (e0 ) = some r) ∧ Hid (Below w.heap.size w wr) ∧ wr.cell? ⟨w.heap.size, 0, none⟩ = some (.slice A1_0 b_rows.length c1_0) ∧ Hid (wr.ownsRow w.heap.size 37 2 (.slice Aout_5l0 out_5l0.length cout_5l0) out_5l0.length (Go.Proofs.Ytaepibmmpdfjcaa.PIntA2.flat out_5l0)) ∧ Hid (Apart Aout_5l0 (some ⟨w.heap.size, 0, none⟩)))
  case atStart => exact ⟨0, _, _, _, by omega, rfl, rfl, H, HBw_t_2, kb_0_0__25, Ot_2, Lib.hid Dt_2_b_0.out⟩
  case round =>
    obtain ⟨k0, out_5l0, Aout_5l0, cout_5l0, hkm0, rfl, rfl, H, HBwr0, kb_0_0__25, Oout_5l0, Dout_5l0_b_0⟩ := hrel
    rename World => wr0
    cases gk with
    | zero =>
      obtain rfl : k0 = sheet.length := by omega
      have hc0 : decide (((sheet.length : Nat) : Int) < ((sheet.length : Nat) : Int)) = false := by simp
      replace H := cnt_zero H
      unfold e0 at H
      replace H := let_hid H
      obtain ⟨_, rfl, H⟩ := H
      obtain rfl := ret_hid H
      go_wp2_with fail
      go_ret
      exact ⟨Aout_5l0, cout_5l0, rfl, Oout_5l0.out, HBwr0.out⟩
    | succ m0 =>
      have hlt0 : k0 < sheet.length := by omega
      have hc0 : decide ((k0 : Int) < ((sheet.length : Nat) : Int)) = true := by simp; omega
      replace H := cnt_succ H
      unfold l0 at H
      replace H := let_hid H
      obtain ⟨_, rfl, H⟩ := H
      go_wp2_with fail
      go_loopg [5, 7] (fuel) (fun m_ v5_ v7_ wr => ∃ (out_5l1 : (List Go.Proofs.Ytaepibmmpdfjcaa.PIntA2.IntA2)) (col_7l1 : Int) (Aout_5l1 : Option Addr) (cout_5l1 : Nat), v5_ = .slice Aout_5l1 out_5l1.length cout_5l1 ∧ v7_ = .int .i64 col_7l1 ∧ Hid (loopK (l1 sheet b_rows fuel k0) m_ (out_5l1, col_7l1) (e1 (fun s' => cntK (l0 sheet b_rows fuel) m0 (k0 + 1) s' (e0 ))) = some r) ∧ Hid (Below w.heap.size w wr) ∧ wr.cell? ⟨w.heap.size, 0, none⟩ = some (.slice A1_0 b_rows.length c1_0) ∧ Hid (wr.ownsRow w.heap.size 37 2 (.slice Aout_5l1 out_5l1.length cout_5l1) out_5l1.length (Go.Proofs.Ytaepibmmpdfjcaa.PIntA2.flat out_5l1)) ∧ Hid (Apart Aout_5l1 (some ⟨w.heap.size, 0, none⟩)))
      case atStart => exact ⟨_, _, _, _, rfl, rfl, H, HBwr0, kb_0_0__25, Oout_5l0, Lib.hid Dout_5l0_b_0.out⟩
      case round =>
        obtain ⟨out_5l1, col_7l1, Aout_5l1, cout_5l1, rfl, rfl, H, HBwr1, kb_0_0__25, Oout_5l1, Dout_5l1_b_0⟩ := hrel
        rename World => wr1
        cases gk with
        | zero => exact (loop_zero H).elim
        | succ m1 =>
          replace H := loop_succ H
          unfold l1 at H
          replace H := unp2_hid H
          replace H := idx_hid H
          obtain ⟨nt_12, yt_12, et_12, lt_12, gt_12, H⟩ := H
          obtain rfl : 0 = nt_12 := by omega
          clear et_12
          obtain ⟨ab_t_12, ao_t_12, zt_12, At_12, z_t_12, ct_12_0⟩ := strs_at M0.out lt_12
          obtain rfl := Option.some.inj (gt_12.out.symm.trans z_t_12)
          subst At_12
          have ltt_12 := cell_lt ct_12_0
          replace ct_12_0 := cell_below HBwr1.out ct_12_0
          clear z_t_12
          have b1t_12 : (0 : Int) < ((sheet.length : Nat) : Int) := by omega
          have b3t_12 : 0 < sheet.length := by omega
          try simp only [Nat.zero_mul, Nat.add_zero, Nat.zero_add, Nat.reduceMul] at ct_12_0
          replace H := let_hid H
          obtain ⟨t_15, ht_15, H⟩ := H
          cases t_15 with
          | false =>
            replace H := ite_f H
            replace H := app_hid H
            unfold e1 at H
            replace H := unp2_hid H
            replace H := app_hid H
            go_wp2_with fail
            go_roundg m0
            case measure => omega
            case rel => exact ⟨k0 + 1, _, _, _, by omega, by go_num, rfl, H, HBwr1, kb_0_0__25, Oout_5l1, Lib.hid Dout_5l1_b_0.out⟩
          | true =>
            replace H := ite_t H
            replace H := bind_hid H
            obtain ⟨t_20, qt_20, H⟩ := H
            go_wp2_with fail
            go_at_call 60
            refine (Go.Proofs.Ytaepibmmpdfjcaa.GsL4Fits.C fuel (sheet) (b_rows) ((k0 : Int)) (col_7l1) (some ⟨ab_t_12, ao_t_12, none⟩) c0 A1_0 c1_0 _   (Lib.hid (Cells.below M0.out HBwr1.out)) N0 (Lib.hid (Cells.below M1_0.out HBwr1.out)) N1_0 qt_20).mono ?_
            rintro e_t_20 wt_20 ⟨rfl, bt_20⟩
            have HBwt_20 := Lib.hid (Below.step HBwr1.out bt_20)
            replace kb_0_0__25 := cell_below bt_20 kb_0_0__25
            replace ct_12_0 := cell_below bt_20 ct_12_0
            replace Oout_5l1 := Lib.hid (own_below Oout_5l1.out bt_20)
            clear bt_20
            cases t_20 with
            | false =>
              replace H := ite_f H
              replace H := let_hid H
              obtain ⟨t_29, ht_29, H⟩ := H
              replace H := app_hid H
              go_wp2_with fail
              go_roundg m1
              case measure => omega
              case rel => exact ⟨_, _, _, _, rfl, rfl, H, HBwt_20, kb_0_0__25, Oout_5l1, Lib.hid Dout_5l1_b_0.out⟩
            | true =>
              replace H := ite_t H
              obtain ⟨w_t_25, hw_t_25⟩ : ∃ x, wt_20.alloc (.cells #[.int .i64 (k0 : Int), .int .i64 col_7l1] 37) = x := ⟨_, rfl⟩
              have bw_t_25 : Below wt_20.heap.size wt_20 w_t_25 := by rw [← hw_t_25]; exact (Below.refl _ _).alloc (Nat.le_refl _) _
              have HBw_t_25 := Lib.hid (Below.step HBwt_20.out bw_t_25)
              have kb_0_0__26 := cell_below bw_t_25 kb_0_0__25
              have ct_12_0__27 := cell_below bw_t_25 ct_12_0
              replace Oout_5l1 := Lib.hid (own_below Oout_5l1.out bw_t_25)
              clear bw_t_25
              replace H := guard_hid H
              obtain ⟨hlt_26, H⟩ := H
              replace H := let_hid H
              obtain ⟨t_26, ht_26, H⟩ := H
              have hht_26 := Lib.hid ht_26
              clear ht_26
              have hst_26 := HBw_t_25.out.size
              go_wp2_with (at_builtin; refine wpList_append_own_at _ rfl _ _ 29 rfl w.heap.size 37 i0_37 (.agg #[.int .i64 0, .int .i64 0]) 2 16 Try.underlying29 hi_37 hz0_37 hz1_37 hz2_37 rfl (by decide) _ _ _ rfl Oout_5l1.out ⟨wt_20.heap.size, 0, none⟩ 1 1 [.int .i64 (k0 : Int), .int .i64 col_7l1] rfl rfl (news_new hw_t_25) (one_cells rfl) (by unfold maxLen; omega) (by omega) hst_26 ?_; intro vt_26 wt_26 ot_26 gt_26 zt_26 yt_26; clear zt_26; obtain ⟨qt_26, ct_26, rfl, pt_26⟩ := own_push hht_26.out (Go.Proofs.Ytaepibmmpdfjcaa.PIntA2.flat_snoc _ _) rfl ot_26; have Pt_26 := Lib.hid pt_26; have Yt_26 := Lib.hid yt_26; have Gt_26 := Lib.hid gt_26; clear ot_26 gt_26 pt_26 yt_26; refine stop_in ?_)
              refine stop_out ?_
              have HBwt_26 := Lib.hid (HBw_t_25.out.grown Gt_26.out hst_26 (fun q hq => (Oout_5l1.out.lt q hq).1))
              clear hst_26
              have Dt_26_b_0 : Hid (Apart (some ⟨qt_26, 0, none⟩) _) := Lib.hid (apart_app Dout_5l1_b_0.out (fun a_ ha_ => by cases ha_; exact cell_lt kb_0_0__26) Yt_26.out)
              replace kb_0_0__26 := cell_other kb_0_0__26 Gt_26.out Dout_5l1_b_0.out
              replace ct_12_0__27 := cell_other ct_12_0__27 Gt_26.out (apart_old Oout_5l1.out ltt_12)
              clear kb_0_0__25 ct_12_0
              clear Oout_5l1 Yt_26 Gt_26
              replace H := let_hid H
              obtain ⟨t_29, ht_29, H⟩ := H
              replace H := app_hid H
              go_wp2_with fail
              go_roundg m1
              case measure => omega
              case rel => exact ⟨_, _, _, _, rfl, rfl, H, HBwt_26, kb_0_0__26, Pt_26, Lib.hid Dt_26_b_0.out⟩
end Go.Proofs.Ytaepibmmpdfjcaa.GsL4Places

/- loop.example/g01062/spec.PlacesFor as a plain function, and the contract of the program's: where the plain one has an answer, the program has it. Conditions: slices read as lists. -/
namespace Go.Proofs.Ytaepibmmpdfjcaa.GsPlacesFor
set_option linter.unusedVariables false
set_option linter.unusedSimpArgs false
open Go.RowKit
open Go.Proofs.Ytaepibmmpdfjcaa.Rowed Go.Proofs.Ytaepibmmpdfjcaa.Turn Go.Proofs.Ytaepibmmpdfjcaa.Aid Go.Proofs.Ytaepibmmpdfjcaa.GoP Go.Proofs.Ytaepibmmpdfjcaa.GoM

def P (fuel : Nat) (sheet : (List ByteArray)) (b_rows : (List ByteArray)) : Option ((List Go.Proofs.Ytaepibmmpdfjcaa.PIntA2.IntA2) × Bool) :=
  Option.bind (Go.Proofs.Ytaepibmmpdfjcaa.GsIsSheet.P fuel sheet) fun (t_4 : Bool) =>
  letK (!t_4) fun (t_5 : Bool) =>
  joinK (fun (t_10 : Bool) =>
  iteK t_10
  (some (([] : List Go.Proofs.Ytaepibmmpdfjcaa.PIntA2.IntA2), false))
  (Option.bind (Go.Proofs.Ytaepibmmpdfjcaa.GsL4Places.P fuel sheet b_rows) fun (t_16 : (List Go.Proofs.Ytaepibmmpdfjcaa.PIntA2.IntA2)) =>
  some (t_16, true))) fun jt_10 => iteK t_5 (appK jt_10 true) (Option.bind (Go.Proofs.Ytaepibmmpdfjcaa.GsIsBlock.P fuel b_rows) fun (t_8 : Bool) =>
  letK (!t_8) fun (t_9 : Bool) =>
  appK jt_10 t_9)

set_option maxRecDepth 100000 in
set_option maxHeartbeats 2000000 in
theorem C (fuel : Nat) (sheet : (List ByteArray)) (b_rows : (List ByteArray)) (A0 : Option Addr) (c0 : Nat) (A1_0 : Option Addr) (c1_0 : Nat)  (w : World) (M0 : Hid (Cells w 1 A0 sheet.length (sheet.map Value.string))) (N0 : Hid (sheet.length ≤ 9223372036854775807)) (M1_0 : Hid (Cells w 1 A1_0 b_rows.length (b_rows.map Value.string))) (N1_0 : Hid (b_rows.length ≤ 9223372036854775807))  {r0 : (List Go.Proofs.Ytaepibmmpdfjcaa.PIntA2.IntA2)} {r1 : Bool} (H : Hid (P fuel sheet b_rows = some (r0, r1))) :
    Calls Try.prog 13 #[.slice A0 sheet.length c0, .agg #[.slice A1_0 b_rows.length c1_0]] w (fun e w' => ∃ A_r0 c_r0, e = .returned (.tuple #[.slice A_r0 r0.length c_r0, .bool r1]) ∧ w'.ownsRow w.heap.size 37 2 (.slice A_r0 r0.length c_r0) r0.length (Go.Proofs.Ytaepibmmpdfjcaa.PIntA2.flat r0) ∧ Below w.heap.size w w') := by
  have HB := Lib.hid (Below.refl w.heap.size w)
  unfold P at H
  have N0o := N0.out
  have N1_0o := N1_0.out
  go_enter Try.func13, Try.ntmps13
  obtain ⟨w_b_0, hw_b_0⟩ : ∃ x, w.alloc (.cells #[.slice A1_0 b_rows.length c1_0] 26) = x := ⟨_, rfl⟩
  have bw_b_0 : Below w.heap.size w w_b_0 := by rw [← hw_b_0]; exact (Below.refl _ _).alloc (Nat.le_refl _) _
  have HBw_b_0 := Lib.hid (Below.step HB.out bw_b_0)
  clear bw_b_0
  have kb_0_0 : w_b_0.cell? ⟨w.heap.size, 0, none⟩ = some (.slice A1_0 b_rows.length c1_0) := by rw [← hw_b_0]; exact box_new _ _ _ 0 _ rfl
  replace H := bind_hid H
  obtain ⟨t_4, qt_4, H⟩ := H
  go_wp2_with fail
  go_at_call 52
  refine (Go.Proofs.Ytaepibmmpdfjcaa.GsIsSheet.C fuel (sheet) A0 c0 _   (Lib.hid (Cells.below M0.out HBw_b_0.out)) N0 qt_4).mono ?_
  rintro e_t_4 wt_4 ⟨rfl, bt_4⟩
  have HBwt_4 := Lib.hid (Below.step HBw_b_0.out bt_4)
  replace kb_0_0 := cell_below bt_4 kb_0_0
  clear bt_4
  cases t_4 with
  | false =>
    replace H := let_hid H
    obtain ⟨t_5, ht_5, H⟩ := H
    obtain rfl : t_5 = true := ht_5.symm
    replace H := join_hid H
    replace H := ite_t H
    replace H := app_hid H
    replace H := ite_t H
    obtain ⟨w_t_11, hw_t_11⟩ : ∃ x, wt_4.alloc (.cells #[] 37) = x := ⟨_, rfl⟩
    have bw_t_11 : Below wt_4.heap.size wt_4 w_t_11 := by rw [← hw_t_11]; exact (Below.refl _ _).alloc (Nat.le_refl _) _
    have Ot_11 : Hid (w_t_11.ownsRow w.heap.size 37 2 (.slice (some ⟨wt_4.heap.size, 0, none⟩) 0 0) 0 []) := Lib.hid (by rw [← hw_t_11]; exact own_empty HBwt_4.out.size)
    have Dt_11_b_0 := Lib.hid (apart_box kb_0_0)
    have HBw_t_11 := Lib.hid (Below.step HBwt_4.out bw_t_11)
    have kb_0_0__28 := cell_below bw_t_11 kb_0_0
    clear bw_t_11
    cases ret_hid H
    go_wp2_with fail
    go_ret2
    exact ⟨(some ⟨wt_4.heap.size, 0, none⟩), 0, rfl, Ot_11.out, HBw_t_11.out⟩
  | true =>
    replace H := let_hid H
    obtain ⟨t_5, ht_5, H⟩ := H
    obtain rfl : t_5 = false := ht_5.symm
    replace H := join_hid H
    replace H := ite_f H
    replace H := bind_hid H
    obtain ⟨t_8, qt_8, H⟩ := H
    go_wp2_with fail
    go_at_call 53
    refine (Go.Proofs.Ytaepibmmpdfjcaa.GsIsBlock.C fuel (b_rows) A1_0 c1_0 _   (Lib.hid (Cells.below M1_0.out HBwt_4.out)) N1_0 qt_8).mono ?_
    rintro e_t_8 wt_8 ⟨rfl, bt_8⟩
    have HBwt_8 := Lib.hid (Below.step HBwt_4.out bt_8)
    replace kb_0_0 := cell_below bt_8 kb_0_0
    clear bt_8
    cases t_8 with
    | false =>
      replace H := let_hid H
      obtain ⟨t_9, ht_9, H⟩ := H
      obtain rfl : t_9 = true := ht_9.symm
      replace H := app_hid H
      replace H := ite_t H
      obtain ⟨w_t_11, hw_t_11⟩ : ∃ x, wt_8.alloc (.cells #[] 37) = x := ⟨_, rfl⟩
      have bw_t_11 : Below wt_8.heap.size wt_8 w_t_11 := by rw [← hw_t_11]; exact (Below.refl _ _).alloc (Nat.le_refl _) _
      have Ot_11 : Hid (w_t_11.ownsRow w.heap.size 37 2 (.slice (some ⟨wt_8.heap.size, 0, none⟩) 0 0) 0 []) := Lib.hid (by rw [← hw_t_11]; exact own_empty HBwt_8.out.size)
      have Dt_11_b_0 := Lib.hid (apart_box kb_0_0)
      have HBw_t_11 := Lib.hid (Below.step HBwt_8.out bw_t_11)
      have kb_0_0__29 := cell_below bw_t_11 kb_0_0
      clear bw_t_11
      cases ret_hid H
      go_wp2_with fail
      go_ret2
      exact ⟨(some ⟨wt_8.heap.size, 0, none⟩), 0, rfl, Ot_11.out, HBw_t_11.out⟩
    | true =>
      replace H := let_hid H
      obtain ⟨t_9, ht_9, H⟩ := H
      obtain rfl : t_9 = false := ht_9.symm
      replace H := app_hid H
      replace H := ite_f H
      replace H := bind_hid H
      obtain ⟨t_16, qt_16, H⟩ := H
      go_wp2_with fail
      go_at_call 54
      refine (Go.Proofs.Ytaepibmmpdfjcaa.GsL4Places.C fuel (sheet) (b_rows) A0 c0 A1_0 c1_0 _   (Lib.hid (Cells.below M0.out HBwt_8.out)) N0 (Lib.hid (Cells.below M1_0.out HBwt_8.out)) N1_0 qt_16).mono ?_
      rintro e_t_16 wt_16 ⟨At_16, ct_16, rfl, ot_16, bt_16⟩
      have Dt_16_b_0 := Lib.hid (apart_callbox ot_16 kb_0_0)
      have Ot_16 := Lib.hid (own_lower ot_16 HBwt_8.out.size)
      clear ot_16
      have HBwt_16 := Lib.hid (Below.step HBwt_8.out bt_16)
      replace kb_0_0 := cell_below bt_16 kb_0_0
      clear bt_16
      cases ret_hid H
      go_wp2_with fail
      go_ret2
      exact ⟨At_16, ct_16, rfl, Ot_16.out, HBwt_16.out⟩
end Go.Proofs.Ytaepibmmpdfjcaa.GsPlacesFor

/- loop.example/g01062/laws.vPairs as a plain function, and the contract of the program's: where the plain one has an answer, the program has it. Conditions: slices read as lists. -/
namespace Go.Proofs.Ytaepibmmpdfjcaa.GlVPairs
set_option linter.unusedVariables false
set_option linter.unusedSimpArgs false
open Go.RowKit
open Go.Proofs.Ytaepibmmpdfjcaa.Rowed Go.Proofs.Ytaepibmmpdfjcaa.Turn Go.Proofs.Ytaepibmmpdfjcaa.Aid Go.Proofs.Ytaepibmmpdfjcaa.GoP Go.Proofs.Ytaepibmmpdfjcaa.GoM

def l0 (a : (List Go.Proofs.Ytaepibmmpdfjcaa.PIntA2.IntA2)) (b : (List Go.Proofs.Ytaepibmmpdfjcaa.PIntA2.IntA2)) (k0 : Nat) (s : Unit) (nx0 bk0 : Unit → Option (Bool)) : Option (Bool) :=
  
  Option.bind (idx a (k0 : Int)) fun (yt_14 : Go.Proofs.Ytaepibmmpdfjcaa.PIntA2.IntA2) =>
  unIntA2 yt_14 fun (t_14_x0 : Int) (t_14_x1 : Int) =>
  Option.bind (idx b (k0 : Int)) fun (yt_18 : Go.Proofs.Ytaepibmmpdfjcaa.PIntA2.IntA2) =>
  unIntA2 yt_18 fun (t_18_x0 : Int) (t_18_x1 : Int) =>
  letK (!(t_14_x0 == t_18_x0 && t_14_x1 == t_18_x1)) fun (t_20 : Bool) =>
  iteK t_20
  (some false)
  (appK nx0 ())

def e0  (s : Unit) : Option (Bool) :=
  
  some true

def P (a : (List Go.Proofs.Ytaepibmmpdfjcaa.PIntA2.IntA2)) (b : (List Go.Proofs.Ytaepibmmpdfjcaa.PIntA2.IntA2)) : Option (Bool) :=
  letK ((a.length : Int) != (b.length : Int)) fun (t_5 : Bool) =>
  iteK t_5
  (some false)
  (cntK (l0 a b) (a.length) 0 () (e0 ))

set_option maxRecDepth 100000
theorem eqr_37 (x0 x1 y0 y1 : Int) : ∀ W, (Op.equalIn 10000 37 (.agg #[Value.int IntKind.i64 x0, Value.int IntKind.i64 x1]) (.agg #[Value.int IntKind.i64 y0, Value.int IntKind.i64 y1])).run Try.prog W = .ok (x0 == y0 && x1 == y1) W := by
  intro W
  obtain ⟨i0, hi, hz0, hz1, hz2⟩ := Aid.info_parts (P := Try.prog) (T := 3) (z := .int .i64 0) (s := 1) (b := 8) (by kernel_rfl)
  rw [run_equalIn_array W 9999 (n := 2) #[Value.int IntKind.i64 x0, Value.int IntKind.i64 x1] #[Value.int IntKind.i64 y0, Value.int IntKind.i64 y1] (by kernel_rfl) hi, show Try.prog.cellsOf 3 = 1 by kernel_rfl, show List.range 2 = [0, 1] from rfl]
  simp only [Op.eqItems, show 0 * 1 = 0 from rfl, show 1 * 1 = 1 from rfl]
  have p0 : ∀ (w : World) (x0 x1 : Int), (part 3 #[Value.int IntKind.i64 x0, Value.int IntKind.i64 x1] 0).run Try.prog w = .ok (.int .i64 x0) w := fun w x0 x1 => run_part_plain w (by kernel_rfl) rfl
  have p1 : ∀ (w : World) (x0 x1 : Int), (part 3 #[Value.int IntKind.i64 x0, Value.int IntKind.i64 x1] 1).run Try.prog w = .ok (.int .i64 x1) w := fun w x0 x1 => run_part_plain w (by kernel_rfl) rfl
  have e0 : ∀ (w : World) (d : Nat) (x y : Int), (Op.equalIn (d + 1) 3 (.int .i64 x) (.int .i64 y)).run Try.prog w = .ok (x == y) w := fun w d x y => run_equalIn_int w d 3 .i64 .i64 x y Try.underlying3
  have e1 : ∀ (w : World) (x y : Int), (Op.equalIn 9999 3 (.int .i64 x) (.int .i64 y)).run Try.prog w = .ok (x == y) w := fun w x y => e0 w 9998 x y
  simp only [Sem.run_bind, p0, p1, e1, Result.andThen_ok, Sem.run_ite, Sem.run_pure]
  cases x0 == y0 <;> cases x1 == y1 <;> rfl
theorem eqla_37 (x0 x1 y0 y1 : Int) : ∀ W, (binOp .eql 37 (.agg #[Value.int IntKind.i64 x0, Value.int IntKind.i64 x1]) (.agg #[Value.int IntKind.i64 y0, Value.int IntKind.i64 y1])).run Try.prog W = .ok (.bool (x0 == y0 && x1 == y1)) W := by
  intro W
  rw [run_eql_struct, eqr_37]; rfl
theorem neqa_37 (x0 x1 y0 y1 : Int) : ∀ W, (binOp .neq 37 (.agg #[Value.int IntKind.i64 x0, Value.int IntKind.i64 x1]) (.agg #[Value.int IntKind.i64 y0, Value.int IntKind.i64 y1])).run Try.prog W = .ok (.bool (!(x0 == y0 && x1 == y1))) W := by
  intro W
  rw [run_neq_struct, eqr_37]; rfl

set_option maxRecDepth 100000 in
set_option maxHeartbeats 2000000 in
theorem C (a : (List Go.Proofs.Ytaepibmmpdfjcaa.PIntA2.IntA2)) (b : (List Go.Proofs.Ytaepibmmpdfjcaa.PIntA2.IntA2)) (A0 : Option Addr) (c0 : Nat) (A1 : Option Addr) (c1 : Nat)  (w : World) (M0 : Hid (Cells w 2 A0 a.length (Go.Proofs.Ytaepibmmpdfjcaa.PIntA2.flat a))) (N0 : Hid (a.length ≤ 9223372036854775807)) (M1 : Hid (Cells w 2 A1 b.length (Go.Proofs.Ytaepibmmpdfjcaa.PIntA2.flat b))) (N1 : Hid (b.length ≤ 9223372036854775807))  {r : Bool} (H : Hid (P a b = some r)) :
    Calls Try.prog 14 #[.slice A0 a.length c0, .slice A1 b.length c1] w (Gives (.bool r) w) := by
  have HB := Lib.hid (Below.refl w.heap.size w)
  unfold P at H
  have N0o := N0.out
  have N1o := N1.out
  go_enter Try.func14, Try.ntmps14
  replace H := let_hid H
  obtain ⟨t_5, ht_5, H⟩ := H
  cases t_5 with
  | false =>
    have Hht_5 : Hid (a.length = b.length) := Lib.hid (by have := bne_eq_false_iff_eq.1 ht_5; omega)
    have nht_5 : (a.length == b.length) = true := beq_iff_eq.2 Hht_5.out
    replace H := ite_f H
    go_wp2_with fail
    go_loopg [5] (a.length) (fun m_ v5_ wr => ∃ (k0 : Nat) , k0 + m_ = a.length ∧ v5_ = .int .i64 (k0 : Int) ∧ Hid (cntK (l0 a b) m_ k0 () (e0 ) = some r) ∧ Hid (Below w.heap.size w wr))
    case atStart => exact ⟨0, by omega, rfl, H, HB⟩
    case round =>
      obtain ⟨k0, hkm0, rfl, H, HBwr0⟩ := hrel
      rename World => wr0
      cases gk with
      | zero =>
        obtain rfl : k0 = a.length := by omega
        have hc0 : decide (((a.length : Nat) : Int) < ((a.length : Nat) : Int)) = false := by simp
        replace H := cnt_zero H
        unfold e0 at H
        obtain rfl := ret_hid H
        go_wp2_with fail
        go_ret
        exact ⟨rfl, HBwr0.out⟩
      | succ m0 =>
        have hlt0 : k0 < a.length := by omega
        have hc0 : decide ((k0 : Int) < ((a.length : Nat) : Int)) = true := by simp; omega
        replace H := cnt_succ H
        unfold l0 at H
        go_wp2_with fail
        replace H := idx_hid H
        obtain ⟨nt_14, yt_14, et_14, lt_14, gt_14, H⟩ := H
        obtain rfl : k0 = nt_14 := by omega
        clear et_14
        obtain ⟨t_14_x0, t_14_x1⟩ := yt_14
        replace H := unIntA2_hid H
        obtain ⟨ab_t_14, ao_t_14, zt_14, At_14, z_t_14, ct_14_0, ct_14_1⟩ := Go.Proofs.Ytaepibmmpdfjcaa.OIntA2.at_ M0.out lt_14
        obtain rfl := Option.some.inj (gt_14.out.symm.trans z_t_14)
        subst At_14
        have ltt_14 := cell_lt ct_14_0
        replace ct_14_0 := cell_below HBwr0.out ct_14_0
        replace ct_14_1 := cell_below HBwr0.out ct_14_1
        clear z_t_14
        have b0t_14 : (0 : Int) ≤ (k0 : Int) := by omega
        have b1t_14 : (k0 : Int) < ((a.length : Nat) : Int) := by omega
        have b2t_14 : ((k0 : Int)).toNat = k0 := by omega
        have Hct_14_0 := Lib.hid ct_14_0
        replace ct_14_0 := cell_regrown ct_14_0
        have Hct_14_1 := Lib.hid ct_14_1
        replace ct_14_1 := cell_regrown ct_14_1
        replace H := idx_hid H
        obtain ⟨nt_18, yt_18, et_18, lt_18, gt_18, H⟩ := H
        obtain rfl : k0 = nt_18 := by omega
        clear et_18
        obtain ⟨t_18_x0, t_18_x1⟩ := yt_18
        replace H := unIntA2_hid H
        obtain ⟨ab_t_18, ao_t_18, zt_18, At_18, z_t_18, ct_18_0, ct_18_1⟩ := Go.Proofs.Ytaepibmmpdfjcaa.OIntA2.at_ M1.out lt_18
        obtain rfl := Option.some.inj (gt_18.out.symm.trans z_t_18)
        subst At_18
        have ltt_18 := cell_lt ct_18_0
        replace ct_18_0 := cell_below HBwr0.out ct_18_0
        replace ct_18_1 := cell_below HBwr0.out ct_18_1
        clear z_t_18
        have b0t_18 : (0 : Int) ≤ (k0 : Int) := by omega
        have b1t_18 : (k0 : Int) < ((b.length : Nat) : Int) := by omega
        have b2t_18 : ((k0 : Int)).toNat = k0 := by omega
        have Hct_18_0 := Lib.hid ct_18_0
        replace ct_18_0 := cell_regrown ct_18_0
        have Hct_18_1 := Lib.hid ct_18_1
        replace ct_18_1 := cell_regrown ct_18_1
        replace H := let_hid H
        obtain ⟨t_20, ht_20, H⟩ := H
        have ct_20 : ∀ W, (binOp .neq 37 (.agg #[.int .i64 t_14_x0, .int .i64 t_14_x1]) (.agg #[.int .i64 t_18_x0, .int .i64 t_18_x1])).run Try.prog W = .ok (.bool t_20) W := fun W => by rw [neqa_37, ht_20]
        refine wp_region_quiet_below (by kernel_rfl) (by kernel_rfl) ?_
        repeat (go_big_quiet_step (fail))
        refine wpQuiet_nil ?_
        intro Y6 hY6
        replace hY6 := below_class hY6
        replace ct_14_0 := Hct_14_0.out
        clear Hct_14_0
        replace ct_14_1 := Hct_14_1.out
        clear Hct_14_1
        replace ct_18_0 := Hct_18_0.out
        clear Hct_18_0
        replace ct_18_1 := Hct_18_1.out
        clear Hct_18_1
        have HBY6 := Lib.hid (Below.step HBwr0.out hY6)
        replace ct_14_0 := cell_below hY6 ct_14_0
        replace ct_14_1 := cell_below hY6 ct_14_1
        replace ct_18_0 := cell_below hY6 ct_18_0
        replace ct_18_1 := cell_below hY6 ct_18_1
        clear hY6
        cases t_20 with
        | false =>
          replace H := ite_f H
          replace H := app_hid H
          go_wp2_with fail
          go_roundg m0
          case measure => omega
          case rel => exact ⟨k0 + 1, by omega, by go_num, H, HBY6⟩
        | true =>
          replace H := ite_t H
          obtain rfl := ret_hid H
          go_wp2_with fail
          go_ret
          exact ⟨rfl, HBY6.out⟩
  | true =>
    have nht_5 : ¬ (a.length = b.length) := by have := bne_iff_ne.1 ht_5; omega
    replace H := ite_t H
    obtain rfl := ret_hid H
    go_wp2_with fail
    go_ret
    exact ⟨rfl, HB.out⟩
end Go.Proofs.Ytaepibmmpdfjcaa.GlVPairs

/- Rows of bytes that a conversion from a string lays (the row bears a mark behind its last cell), in words like those of other rows of one's own. No condition. -/
namespace Go.Proofs.Ytaepibmmpdfjcaa.GoB
set_option linter.unusedVariables false
set_option linter.unusedSimpArgs false
open Go.RowKit
open Go.Proofs.Ytaepibmmpdfjcaa.Rowed Go.Proofs.Ytaepibmmpdfjcaa.Turn Go.Proofs.Ytaepibmmpdfjcaa.GoM

def u8s (l : List Int) : List Value := l.map (fun z => Value.int .u8 z)
theorem u8s_len (l : List Int) : (u8s l).length = l.length := by simp [u8s]
theorem u8s_at (l : List Int) (k : Nat) : (u8s l)[k]? = (l[k]?).map (Value.int .u8) := by simp [u8s]
/-- a row of one's own that no mark covers -/
def ownsB (w : World) (base : Nat) (e : TypeId) (size : Nat) (v : Value) (n : Nat) (xs : List Value) : Prop :=
  xs.length = n * size ∧
  ((v = .slice none 0 0 ∧ n = 0) ∨
   ∃ g cap cur, v = .slice (some ⟨g, 0, none⟩) n cap ∧ base ≤ g ∧ (∃ fz, w.heap[g]? = some (.cells cur e fz) ∧ cur.size ≤ fz.1) ∧ n ≤ cap ∧ n ≤ 9223372036854775807 ∧ cur.size = cap * size ∧ cur.toList.take (n * size) = xs)
section
variable {w : World} {base : Nat} {e : TypeId} {size : Nat} {v : Value} {n : Nat} {xs : List Value}
theorem ownsB.lt (h : ownsB w base e size v n xs) : ∀ k, v.ownBlock = some k → base ≤ k ∧ k < w.heap.size := by
  intro k hk
  rcases h.2 with ⟨rfl, _⟩ | ⟨g, cap, cur, rfl, hb, ⟨fz, hg, _⟩, _⟩
  · simp [Value.ownBlock] at hk
  · simp [Value.ownBlock] at hk
    subst hk
    exact ⟨hb, (Array.getElem?_eq_some_iff.1 hg).1⟩
theorem ownsB.kept {w' : World} {row : Option Nat} (h : ownsB w base e size v n xs) (hg : w.grownBy w' row) (hne : v.ownBlock = none ∨ v.ownBlock ≠ row) : ownsB w' base e size v n xs := by
  refine ⟨h.1, ?_⟩
  rcases h.2 with hn | ⟨g, cap, cur, rfl, hb, ⟨fz, hgg, hz⟩, rest⟩
  · exact .inl hn
  · refine .inr ⟨g, cap, cur, rfl, hb, ⟨fz, ?_, hz⟩, rest⟩
    rw [hg.block g (Array.getElem?_eq_some_iff.1 hgg).1 (by simpa [Value.ownBlock] using hne)]
    exact hgg
theorem ownsB.cells (h : ownsB w base e size v n xs) {g : Nat} (hg : v.ownBlock = some g) : ∀ j u, xs[j]? = some u → w.cell? ((⟨g, 0, none⟩ : Addr).add j) = some u := by
  intro j u hu
  rcases h.2 with ⟨rfl, _⟩ | ⟨g', cap, cur, rfl, _, ⟨fz, hgg, _⟩, _, _, _, htake⟩
  · simp [Value.ownBlock] at hg
  · simp [Value.ownBlock] at hg
    subst hg
    rw [add_flat, Nat.zero_add, cell_of_row w g' j cur e fz hgg]
    rw [← htake, List.getElem?_take] at hu
    split at hu
    · simpa using hu
    · cases hu
theorem ownsB.frozenAt {g cap : Nat} (h : ownsB w base e size (.slice (some ⟨g, 0, none⟩) n cap) n xs) (j : Nat) (hj : j < n * size) : w.frozen? ⟨g, j, none⟩ = false := by
  rcases h.2 with ⟨h', _⟩ | ⟨g', cap', cur, h', _, ⟨fz, hg, hz⟩, hnc, _, hcs, _⟩
  · simp at h'
  · simp only [Value.slice.injEq, Option.some.injEq, Addr.mk.injEq, and_true, true_and] at h'
    obtain ⟨rfl, rfl⟩ := h'
    have : n * size ≤ cap * size := Nat.mul_le_mul_right size hnc
    obtain ⟨lo, hi⟩ := fz
    unfold World.frozen?
    rw [hg]
    simp only at hz ⊢
    simp
    omega
theorem ownsB.stored {g cap : Nat} (h : ownsB w base e size (.slice (some ⟨g, 0, none⟩) n cap) n xs) (j : Nat) (u : Value) :
    ownsB (w.setCell ⟨g, j, none⟩ u) base e size (.slice (some ⟨g, 0, none⟩) n cap) n (xs.set j u) ∧ w.grownBy (w.setCell ⟨g, j, none⟩ u) (some g) := by
  rcases h.2 with ⟨h', _⟩ | ⟨g', cap', cur, h', hb, ⟨fz, hg, hz⟩, hnc, hcm, hcs, htake⟩
  · simp at h'
  · simp only [Value.slice.injEq, Option.some.injEq, Addr.mk.injEq, and_true, true_and] at h'
    obtain ⟨rfl, rfl⟩ := h'
    refine ⟨⟨by simpa using h.1, .inr ⟨g, cap, cur.setIfInBounds j u, rfl, hb, ⟨fz, ?_, by simpa using hz⟩, hnc, hcm, by simpa using hcs, ?_⟩⟩,
      ⟨rfl, rfl, rfl, by simp, fun k _ hk => heap_setCell_other w ⟨g, j, none⟩ k u (fun e => hk (by simp [e]))⟩⟩
    · show (w.setCell ⟨g, j, none⟩ u).heap[g]? = _
      have hl := (Array.getElem?_eq_some_iff.1 hg).1
      simp [World.setCell, Array.getElem?_modify, hg]
    · rw [Array.toList_setIfInBounds, ← htake, List.take_set]
end
theorem own_below {w w' : World} {base n size : Nat} {v : Value} {e : TypeId} {xs : List Value} (h : ownsB w base e size v n xs) (hb : Below w.heap.size w w') : ownsB w' base e size v n xs :=
  h.kept (Aid.grown_of hb) (by cases v.ownBlock <;> simp)
theorem own_lt {w : World} {b T K n m c : Nat} {A : Option Addr} {xs : List Value} (h : ownsB w b T K (.slice A m c) n xs) (a : Addr) (ha : A = some a) : b ≤ a.block ∧ a.block < w.heap.size := by
  subst ha
  exact h.lt a.block rfl
theorem apart_fresh {w : World} {b T K n m c : Nat} {A : Option Addr} {xs : List Value} (h : ownsB w b T K (.slice A m c) n xs) : Apart (some ⟨w.heap.size, 0, none⟩) A := by
  intro a a' ha ha' e
  have := (own_lt h a' ha').2
  injection ha with ha
  subst ha
  simp at e
  omega
theorem apart_call {w w1 : World} {b T K n m c T' K' n' m' c' : Nat} {A B : Option Addr} {xs ys : List Value} (h1 : w1.ownsRow w.heap.size T K (.slice A m c) n xs) (h : ownsB w b T' K' (.slice B m' c') n' ys) : Apart A B := by
  intro a a' ha ha' e
  have := (own_lt h a' ha').2
  have := (GoM.own_lt h1 a ha).1
  omega
theorem own_other {w w' : World} {b T K n m c n' c' : Nat} {A B : Option Addr} {ys : List Value} (h : ownsB w b T K (.slice B m c) n ys) (hg : w.grownBy w' (Value.slice A n' c').ownBlock) (hD : Apart A B) : ownsB w' b T K (.slice B m c) n ys := by
  refine h.kept hg ?_
  cases B with
  | none => exact .inl rfl
  | some y =>
    refine .inr ?_
    cases A with
    | none => simp [Value.ownBlock]
    | some x => simp only [Value.ownBlock, ne_eq, Option.some.injEq]; exact fun e => hD x y rfl rfl e.symm
theorem apart_old {wr : World} {b T K n m c g : Nat} {A : Option Addr} {xs : List Value} (h : ownsB wr b T K (.slice A m c) n xs) (hg : g < b) : Apart A (some ⟨g, 0, none⟩) := by
  intro a a' ha ha' e
  have := (own_lt h a ha).1
  injection ha' with ha'
  subst ha'
  simp at e
  omega
theorem own_len {w : World} {b T K n m c : Nat} {A : Option Addr} {xs : List Value} (h : m = n) (hO : ownsB w b T K (.slice A n c) n xs) : ownsB w b T K (.slice A m c) m xs := by subst h; exact hO
theorem own_max {w : World} {b T K n c : Nat} {A : Option Addr} {xs : List Value} (h : ownsB w b T K (.slice A n c) n xs) : n ≤ 9223372036854775807 := by
  rcases h.2 with ⟨_, h0⟩ | ⟨g, cap, cur, hv, _, _, h1, h2, _⟩
  · omega
  · exact h2
theorem own_some {w : World} {b T K n c : Nat} {A : Option Addr} {xs : List Value} (h : ownsB w b T K (.slice A n c) n xs) (hn : 0 < n) : ∃ g, A = some ⟨g, 0, none⟩ := by
  rcases h.2 with ⟨_, h0⟩ | ⟨g, cap, cur, hv, _⟩
  · omega
  · injection hv with e1; exact ⟨g, e1⟩
theorem own_stores {b T K n c g : Nat} (ps : List (Nat × Value)) : ∀ {w : World} {xs : List Value}, ownsB w b T K (.slice (some ⟨g, 0, none⟩) n c) n xs →
    ownsB (ps.foldl (fun w p => w.setCell ⟨g, p.1, none⟩ p.2) w) b T K (.slice (some ⟨g, 0, none⟩) n c) n (ps.foldl (fun xs p => xs.set p.1 p.2) xs) ∧ w.grownBy (ps.foldl (fun w p => w.setCell ⟨g, p.1, none⟩ p.2) w) (some g) := by
  induction ps with
  | nil => intro w xs h; exact ⟨h, Aid.grown_refl _ _⟩
  | cons p ps ih =>
    intro w xs h
    have h1 := h.stored p.1 p.2
    have h2 := ih h1.1
    exact ⟨h2.1, Aid.grown_tr h1.2 h2.2⟩
theorem own_cells {w : World} {base n c size : Nat} {A : Option Addr} {e : TypeId} {xs : List Value} (h : ownsB w base e size (.slice A n c) n xs) : Cells w size A n xs := by
  rcases h.2 with ⟨hv, h0⟩ | ⟨g, cap, cur, hv, _⟩
  · subst h0
    have := h.1
    exact ⟨this, fun hn => by rw [Nat.zero_mul] at this; omega⟩
  · injection hv with e1 e2 e3
    subst e1
    exact ⟨h.1, fun _ => ⟨_, rfl, h.cells rfl⟩⟩
theorem u8_at {w : World} {A : Option Addr} {n k : Nat} {l : List Int} (h : Cells w 1 A n (u8s l)) (hk : k < n) : ∃ (b o : Nat) (x : Int), A = some ⟨b, o, none⟩ ∧ l[k]? = some x ∧ w.cell? ⟨b, o + k, none⟩ = some (.int .u8 x) := by
  have hl : k < l.length := by have := h.1; unfold u8s at this; rw [List.length_map] at this; omega
  obtain ⟨⟨b, o, sp⟩, e, hc⟩ := h.2 (by unfold u8s; rw [List.length_map]; omega)
  have h0 := hc 0 (.int .u8 l[0]) (by unfold u8s; rw [List.getElem?_map, List.getElem?_eq_getElem (show 0 < l.length by omega)]; rfl)
  obtain rfl : sp = none := cell_spot (b := b) (o := o) h0
  have hs := List.getElem?_eq_getElem hl
  have := hc k (.int .u8 l[k]) (by unfold u8s; rw [List.getElem?_map, hs]; rfl)
  rw [add_flat] at this
  exact ⟨b, o, l[k], e, hs, this⟩
/-- []byte(s) -/
theorem conv_new {P : Program} (base : Nat) (w : World) (src dst e : TypeId) (s : ByteArray) (hs : P.underlying src = some .string) (hd : P.underlying dst = some (.slice e)) (he : P.underlying e = some (.int .u8)) (hb : base ≤ w.heap.size) (hn : s.size ≤ 9223372036854775807) {l : List Int} (hl : s.toList.map (fun b => (b.toNat : Int)) = l) :
    ∃ w' c, (convert src dst (.string s)).run P w = .ok (.slice (some ⟨w.heap.size, 0, none⟩) l.length c) w' ∧ ownsB w' base e 1 (.slice (some ⟨w.heap.size, 0, none⟩) l.length c) l.length (u8s l) ∧ Below w.heap.size w w' := by
  subst hl
  have hsz : (s.toList.map (fun b => (b.toNat : Int))).length = s.size := by rw [List.length_map, size_list]
  rw [hsz]
  refine ⟨_, _, Lib.run_convert_string_bytes w src dst e s hs hd he, ⟨?_, .inr ⟨w.heap.size, _, Lib.bytesCells w e s, rfl, hb, ⟨_, Lib.bytesWorld_at_new w e s, Nat.le_refl _⟩, grownCap_ge _ _ _ _, hn, ?_, ?_⟩⟩, ?_⟩
  · rw [u8s_len, hsz, Nat.mul_one]
  · have := grownCap_ge w s.size 0 e
    have h2 : s.data.size = s.size := rfl
    simp only [Lib.bytesCells, Array.size_append, Array.size_map, Array.size_replicate, Nat.mul_one, h2]
    omega
  · rw [Nat.mul_one]
    have h2 : s.data.toList.length = s.size := rfl
    simp only [Lib.bytesCells, Array.toList_append, Array.toList_map, u8s, List.map_map]
    rw [List.take_append_of_le_length (by rw [List.length_map, h2]; exact Nat.le_refl _), List.take_of_length_le (by rw [List.length_map, h2]; exact Nat.le_refl _), Lib.toList_data]
    rfl
  · exact ⟨rfl, rfl, rfl, by rw [Lib.bytesWorld_size]; omega, fun k hk => Lib.bytesWorld_at_old w e s k hk⟩
/-- string(b) -/
def strK (l : List Int) : ByteArray := ⟨(l.map (fun z => UInt8.ofNat z.toNat)).toArray⟩
theorem fold_push (l : List Int) : ∀ r : ByteArray, l.foldl (fun r n => r.push (UInt8.ofNat n.toNat)) r = ⟨r.data ++ (l.map (fun z => UInt8.ofNat z.toNat)).toArray⟩ := by
  induction l with
  | nil => intro r; simp
  | cons x l ih => intro r; rw [List.foldl_cons, ih]; simp [ByteArray.push]
theorem conv_back {P : Program} {w : World} {src dst e : TypeId} {b n c : Nat} {A : Option Addr} {l : List Int} {s : ByteArray} (hs : P.underlying src = some (.slice e)) (he : P.underlying e = some (.int .u8)) (hd : P.underlying dst = some .string)
    (h : ownsB w b e 1 (.slice A n c) n (u8s l)) (hl : strK l = s) : (convert src dst (.slice A n c)).run P w = .ok (.string s) w := by
  subst hl
  have hn : l.length = n := by have := h.1; rw [u8s_len, Nat.mul_one] at this; exact this
  rcases h.2 with ⟨hv, h0⟩ | ⟨g, cap, cur, hv, _⟩
  · injection hv with e1 e2 e3
    subst e1 e2 e3
    have : l = [] := List.length_eq_zero_iff.1 hn
    subst this
    rw [run_convert_bytes_string w src dst e _ 0 0 hs he hd]
    simp [Conv.bytesToString, strK]
    rfl
  · injection hv with e1 e2 e3
    subst e1 e3
    rw [run_convert_bytes_string w src dst e _ n c hs he hd]
    have hload := run_loadCells_list (P := P) w ⟨g, 0, none⟩ (l.map (Value.int .u8)) (fun j v hj => h.cells rfl j v hj)
    rw [List.length_map, hn] at hload
    rw [run_bytesToString w ⟨g, 0, none⟩ n c l hload, fold_push]
    have he0 : ByteArray.empty.data = #[] := rfl
    rw [he0, Array.empty_append]; rfl
end Go.Proofs.Ytaepibmmpdfjcaa.GoB

/- The contracts of the laws' helpers on slices of ints: toIntS, eqIntS, markIntS, heldIntS. Condition: the slice reads as a list of ints. -/
namespace Go.Proofs.Ytaepibmmpdfjcaa.HelpInt
set_option linter.unusedVariables false
open Go.RowKit
open Go.Proofs.Ytaepibmmpdfjcaa.Rowed

/-- ints as values -/
def iv (l : List Int) : List Value := l.map (Value.int .i64)
theorem iv_len (l : List Int) : (iv l).length = l.length := by simp [iv]
theorem iv_at (l : List Int) (k : Nat) : (iv l)[k]? = (l[k]?).map (Value.int .i64) := by simp [iv]
/-- the slice 'A, n' reads as the ints l -/
abbrev Ints (w : World) (A : Option Addr) (n : Nat) (l : List Int) : Prop := Cells w 1 A n (iv l)
theorem add_none (b o n : Nat) : (⟨b, o, none⟩ : Addr).add n = ⟨b, o + n, none⟩ := by
  unfold Addr.add; split
  · rename_i h; subst h; rfl
  · rfl
theorem Ints.at_ {w : World} {A : Option Addr} {n k : Nat} {l : List Int} (h : Ints w A n l) (hk : k < n) : ∃ (b o : Nat) (x : Int), A = some ⟨b, o, none⟩ ∧ l[k]? = some x ∧ w.cell? ⟨b, o + k, none⟩ = some (.int .i64 x) := by
  have hl : k < l.length := by have := h.1; rw [iv_len] at this; omega
  obtain ⟨⟨b, o, sp⟩, e, hc⟩ := h.2 (by rw [iv_len]; omega)
  have h0 := hc 0 _ (by rw [iv_at, List.getElem?_eq_getElem (show 0 < l.length by omega)]; rfl)
  obtain rfl : sp = none := cell_spot (b := b) (o := o) h0
  have hs := List.getElem?_eq_getElem hl
  have := hc k (.int .i64 l[k]) (by rw [iv_at, hs]; rfl)
  rw [add_none] at this
  exact ⟨b, o, l[k], e, hs, this⟩








end Go.Proofs.Ytaepibmmpdfjcaa.HelpInt

/- More words for the contracts of plain functions: a test against nil, a row that is handed over, a row whose end is cleared. No condition. -/
namespace Go.Proofs.Ytaepibmmpdfjcaa.GoK
set_option linter.unusedVariables false
open Go.RowKit
open Go.Proofs.Ytaepibmmpdfjcaa.Rowed Go.Proofs.Ytaepibmmpdfjcaa.Turn Go.Proofs.Ytaepibmmpdfjcaa.GoM

/-- a test of a row against nil: only an empty row can be nil, and then both ways have one answer -/
def nilK {α ρ : Type} (l : List α) (f : Bool → Option ρ) : Option ρ := f false
theorem nilK_hid {α ρ : Type} {l : List α} {f : Bool → Option ρ} {r : ρ} (H : Hid (nilK l f = some r)) (b : Bool) (hb : b = true → l = []) (he : l = [] → f true = f false) : Hid (f b = some r) := by
  have h : f false = some r := H
  cases b with
  | false => exact h
  | true => exact (he (hb rfl)).trans h
theorem nil_cells {w : World} {K n : Nat} {A : Option Addr} {α : Type} {l : List α} {cs : List Value} (h : Cells w K A n cs) (hl : cs = [] → l = []) : A.isNone = true → l = [] := by
  intro hA
  refine hl ?_
  cases hc : cs with
  | nil => rfl
  | cons y ys => obtain ⟨a, e, _⟩ := h.2 (by rw [hc]; simp); rw [e] at hA; simp at hA
/-- where a row lies that a function hands on: where another one lay, or behind all that was there -/
def From (w : World) (A A' : Option Addr) : Prop := ∀ a', A' = some a' → (∃ a, A = some a ∧ a.block = a'.block) ∨ w.heap.size ≤ a'.block
end Go.Proofs.Ytaepibmmpdfjcaa.GoK

/- slices.Clone[[]string,string] as a plain function, and the contract of the program's: where the plain one has an answer, the program has it. Conditions: slices read as lists. -/
namespace Go.Proofs.Ytaepibmmpdfjcaa.GxSlicesCloneStringString
set_option linter.unusedVariables false
set_option linter.unusedSimpArgs false
open Go.RowKit
open Go.Proofs.Ytaepibmmpdfjcaa.Rowed Go.Proofs.Ytaepibmmpdfjcaa.Turn Go.Proofs.Ytaepibmmpdfjcaa.Aid Go.Proofs.Ytaepibmmpdfjcaa.GoP Go.Proofs.Ytaepibmmpdfjcaa.GoM

def P (s_0 : (List ByteArray)) : Option ((List ByteArray)) :=
  Go.Proofs.Ytaepibmmpdfjcaa.GoK.nilK s_0 fun (nt_2 : Bool) =>
  iteK nt_2
  (some [])
  (guardK (([] : List ByteArray).length + s_0.length ≤ 1099511627776) <|
  letK (([] : List ByteArray) ++ s_0) fun (t_6 : (List ByteArray)) =>
  some t_6)

set_option maxRecDepth 100000 in
set_option maxHeartbeats 2000000 in
theorem C (s_0 : (List ByteArray)) (A0 : Option Addr) (c0 : Nat)  (w : World) (M0 : Hid (Cells w 1 A0 s_0.length (s_0.map Value.string))) (N0 : Hid (s_0.length ≤ 9223372036854775807)) (Q0 : Hid (Room A0 s_0.length c0))  {r : (List ByteArray)} (H : Hid (P s_0 = some r)) :
    Calls Try.prog 90 #[.slice A0 s_0.length c0] w (fun e w' => ∃ A_r c_r, e = .returned (.slice A_r r.length c_r) ∧ w'.ownsRow w.heap.size 9 1 (.slice A_r r.length c_r) r.length (r.map Value.string) ∧ Below w.heap.size w w') := by
  have HB := Lib.hid (Below.refl w.heap.size w)
  unfold P at H
  have N0o := N0.out
  obtain ⟨i0_9, hi_9, hz0_9, hz1_9, hz2_9⟩ := Aid.info_parts (P := Try.prog) (T := 9) (z := .string ByteArray.empty) (s := 1) (b := 16) (by kernel_rfl)
  go_enter Try.func90, Try.ntmps90
  have mt_2 := Go.Proofs.Ytaepibmmpdfjcaa.GoK.nil_cells (l := s_0) (Cells.below M0.out HB.out) (fun h_ => by cases s_0 with | nil => rfl | cons y_ ys_ => simp [] at h_)
  obtain ⟨nt_2, ht_2⟩ : ∃ z_, (A0 : Option Addr).isNone = z_ := ⟨_, rfl⟩
  have rt_2 : ∀ W_, (binOp .eql 24 (.slice A0 s_0.length c0) (.slice none 0 0)).run Try.prog W_ = .ok (.bool nt_2) W_ := by intro W_; rw [← ht_2]; exact Lib.run_eql_slice_nil W_ _ _ _ _ _ _ _ Try.underlying24
  replace H := Go.Proofs.Ytaepibmmpdfjcaa.GoK.nilK_hid H nt_2 (by rw [← ht_2]; exact mt_2) (by intro h_; subst h_; rfl)
  clear mt_2 ht_2
  cases nt_2 with
  | false =>
    replace H := ite_f H
    obtain ⟨w_t_4, hw_t_4⟩ : ∃ x, w.alloc (.cells #[] 9) = x := ⟨_, rfl⟩
    have bw_t_4 : Below w.heap.size w w_t_4 := by rw [← hw_t_4]; exact (Below.refl _ _).alloc (Nat.le_refl _) _
    have Ot_4 : Hid (w_t_4.ownsRow w.heap.size 9 1 (.slice (some ⟨w.heap.size, 0, none⟩) 0 0) 0 []) := Lib.hid (by rw [← hw_t_4]; exact own_empty HB.out.size)
    have HBw_t_4 := Lib.hid (Below.step HB.out bw_t_4)
    clear bw_t_4
    replace H := guard_hid H
    obtain ⟨hlt_6, H⟩ := H
    replace H := let_hid H
    obtain ⟨t_6, ht_6, H⟩ := H
    have hht_6 := Lib.hid ht_6
    clear ht_6
    have hst_6 := HBw_t_4.out.size
    have Ct_6 := Lib.hid ((Cells.below M0.out HBw_t_4.out))
    go_wp2_with (at_builtin; refine append_spread rfl _ _ 24 rfl w.heap.size 9 i0_9 (.string ByteArray.empty) 1 16 Try.underlying24 hi_9 hz0_9 hz1_9 hz2_9 rfl (by decide) (some ⟨w.heap.size, 0, none⟩) 0 0 _ rfl Ot_4.out A0 s_0.length c0 (s_0.map Value.string) rfl Q0.out Ct_6.out (fun u hu => by obtain ⟨y_, _, rfl⟩ := List.mem_map.1 hu; rfl) (by unfold maxLen; simp only [List.length_nil] at hlt_6; omega) (by simp only [List.length_nil] at hlt_6; omega) hst_6 ?_; intro vt_6 wt_6 ot_6 gt_6 yt_6; obtain ⟨At_6, ct_6, rfl, pt_6⟩ := own_pushS (f := (fun z => z.map Value.string)) hht_6.out (by simp) rfl ot_6; have Pt_6 := Lib.hid pt_6; have Yt_6 := Lib.hid yt_6; have Gt_6 := Lib.hid gt_6; clear ot_6 gt_6 pt_6 yt_6; refine stop_in ?_)
    refine stop_out ?_
    clear Ct_6
    have HBwt_6 := Lib.hid (HBw_t_4.out.grown Gt_6.out hst_6 (fun q hq => (Ot_4.out.lt q hq).1))
    clear hst_6
    clear Ot_4 Yt_6 Gt_6
    obtain rfl := ret_hid H
    go_wp2_with fail
    go_ret
    exact ⟨At_6, ct_6, rfl, Pt_6.out, HBwt_6.out⟩
  | true =>
    replace H := ite_t H
    obtain rfl := ret_hid H
    go_wp2_with fail
    go_ret
    exact ⟨none, 0, rfl, own_nil, HB.out⟩
end Go.Proofs.Ytaepibmmpdfjcaa.GxSlicesCloneStringString

/- loop.example/g01062/impl.laidOn as a plain function, and the contract of the program's: where the plain one has an answer, the program has it. Conditions: slices read as lists. -/
namespace Go.Proofs.Ytaepibmmpdfjcaa.GiLaidOn
set_option linter.unusedVariables false
set_option linter.unusedSimpArgs false
open Go.RowKit
open Go.Proofs.Ytaepibmmpdfjcaa.Rowed Go.Proofs.Ytaepibmmpdfjcaa.Turn Go.Proofs.Ytaepibmmpdfjcaa.Aid Go.Proofs.Ytaepibmmpdfjcaa.GoP Go.Proofs.Ytaepibmmpdfjcaa.GoM Go.Proofs.Ytaepibmmpdfjcaa.GoB

def l1 (col : Int) (yt_11 : ByteArray) (k1 : Nat) (s : (List Int)) (nx1 bk1 : (List Int) → Option ((List ByteArray))) : Option ((List ByteArray)) :=
  letK s fun line_12l1 =>
  Option.bind (idx yt_11.toList (k1 : Int)) fun (yt_31 : UInt8) =>
  letK ((yt_31.toNat : Int)) fun (t_31 : Int) =>
  letK (t_31 != 46) fun (t_32 : Bool) =>
  iteK t_32
  (letK (IntKind.i64.wrap (col + (k1 : Int))) fun (t_36 : Int) =>
  Option.bind (idx yt_11.toList (k1 : Int)) fun (yt_39 : UInt8) =>
  letK ((yt_39.toNat : Int)) fun (t_39 : Int) =>
  Option.bind (idx line_12l1 t_36) fun (yt_40 : Int) =>
  letK (line_12l1.set (t_36).toNat t_39) fun (l41_41 : (List Int)) =>
  appK nx1 (l41_41))
  (appK nx1 (line_12l1))

def e1 (row_2 : Int) (nx0 : ((List ByteArray)) → Option ((List ByteArray))) (laid_9l0 : (List ByteArray)) (k0 : Nat) (s : (List Int)) : Option ((List ByteArray)) :=
  letK s fun line_12l1 =>
  letK (IntKind.i64.wrap (row_2 + (k0 : Int))) fun (t_47 : Int) =>
  letK (Go.Proofs.Ytaepibmmpdfjcaa.GoB.strK line_12l1) fun (t_49 : ByteArray) =>
  Option.bind (idx laid_9l0 t_47) fun (yt_50 : ByteArray) =>
  letK (laid_9l0.set (t_47).toNat t_49) fun (l51_51 : (List ByteArray)) =>
  appK nx0 (l51_51)

def l0 (b_rows : (List ByteArray)) (row_2 : Int) (col : Int) (k0 : Nat) (s : (List ByteArray)) (nx0 bk0 : (List ByteArray) → Option ((List ByteArray))) : Option ((List ByteArray)) :=
  letK s fun laid_9l0 =>
  Option.bind (idx b_rows (k0 : Int)) fun (yt_11 : ByteArray) =>
  letK (IntKind.i64.wrap (row_2 + (k0 : Int))) fun (t_18 : Int) =>
  Option.bind (idx laid_9l0 t_18) fun (yt_19 : ByteArray) =>
  guardK (yt_19.size ≤ 1099511627776) <|
  letK (yt_19.toList.map (fun b_ => (b_.toNat : Int))) fun (t_21 : (List Int)) =>
  guardK (yt_11.size ≤ 9223372036854775807) <|
  cntK (l1 col yt_11) (yt_11.size) 0 (t_21) (e1 row_2 nx0 laid_9l0 k0)

def e0  (s : (List ByteArray)) : Option ((List ByteArray)) :=
  letK s fun laid_9l0 =>
  some laid_9l0

def P (sheet : (List ByteArray)) (b_rows : (List ByteArray)) (row_2 : Int) (col : Int) : Option ((List ByteArray)) :=
  Option.bind (Go.Proofs.Ytaepibmmpdfjcaa.GxSlicesCloneStringString.P sheet) fun (t_3 : (List ByteArray)) =>
  cntK (l0 b_rows row_2 col) (b_rows.length) 0 (t_3) (e0 )

set_option maxRecDepth 100000 in
set_option maxHeartbeats 2000000 in
theorem C (sheet : (List ByteArray)) (b_rows : (List ByteArray)) (row_2 : Int) (col : Int) (A0 : Option Addr) (c0 : Nat) (A1_0 : Option Addr) (c1_0 : Nat)  (w : World) (M0 : Hid (Cells w 1 A0 sheet.length (sheet.map Value.string))) (N0 : Hid (sheet.length ≤ 9223372036854775807)) (Q0 : Hid (Room A0 sheet.length c0)) (M1_0 : Hid (Cells w 1 A1_0 b_rows.length (b_rows.map Value.string))) (N1_0 : Hid (b_rows.length ≤ 9223372036854775807)) (Q1_0 : Hid (Room A1_0 b_rows.length c1_0))  {r : (List ByteArray)} (H : Hid (P sheet b_rows row_2 col = some r)) :
    Calls Try.prog 57 #[.slice A0 sheet.length c0, .agg #[.slice A1_0 b_rows.length c1_0], .int .i64 row_2, .int .i64 col] w (fun e w' => ∃ A_r c_r, e = .returned (.slice A_r r.length c_r) ∧ w'.ownsRow w.heap.size 9 1 (.slice A_r r.length c_r) r.length (r.map Value.string) ∧ Below w.heap.size w w') := by
  have HB := Lib.hid (Below.refl w.heap.size w)
  unfold P at H
  have N0o := N0.out
  have N1_0o := N1_0.out
  go_enter Try.func57, Try.ntmps57
  obtain ⟨w_b_0, hw_b_0⟩ : ∃ x, w.alloc (.cells #[.slice A1_0 b_rows.length c1_0] 26) = x := ⟨_, rfl⟩
  have bw_b_0 : Below w.heap.size w w_b_0 := by rw [← hw_b_0]; exact (Below.refl _ _).alloc (Nat.le_refl _) _
  have HBw_b_0 := Lib.hid (Below.step HB.out bw_b_0)
  clear bw_b_0
  have kb_0_0 : w_b_0.cell? ⟨w.heap.size, 0, none⟩ = some (.slice A1_0 b_rows.length c1_0) := by rw [← hw_b_0]; exact box_new _ _ _ 0 _ rfl
  replace H := bind_hid H
  obtain ⟨t_3, qt_3, H⟩ := H
  go_wp2_with fail
  go_at_call 90
  refine (Go.Proofs.Ytaepibmmpdfjcaa.GxSlicesCloneStringString.C (sheet) A0 c0 _   (Lib.hid (Cells.below M0.out HBw_b_0.out)) N0 Q0 qt_3).mono ?_
  rintro e_t_3 wt_3 ⟨At_3, ct_3, rfl, ot_3, bt_3⟩
  have Dt_3_b_0 := Lib.hid (apart_callbox ot_3 kb_0_0)
  have Ot_3 := Lib.hid (own_lower ot_3 HBw_b_0.out.size)
  clear ot_3
  have HBwt_3 := Lib.hid (Below.step HBw_b_0.out bt_3)
  replace kb_0_0 := cell_below bt_3 kb_0_0
  clear bt_3
  go_wp2_with fail
  go_wp2_with fail
  go_loopg [19] (b_rows.length) (fun m_ v19_ wr => ∃ (k0 : Nat) (laid_9l0 : (List ByteArray)), k0 + m_ = b_rows.length ∧ v19_ = .int .i64 (k0 : Int) ∧ Hid (cntK (l0 b_rows row_2 col) m_ k0 (laid_9l0) (e0 ) = some r) ∧ Hid (Below w.heap.size w wr) ∧ wr.cell? ⟨w.heap.size, 0, none⟩ = some (.slice A1_0 b_rows.length c1_0) ∧ Hid (wr.ownsRow w.heap.size 9 1 (.slice At_3 t_3.length ct_3) t_3.length (laid_9l0.map Value.string)) ∧ Hid (laid_9l0.length = t_3.length) ∧ Hid (Apart At_3 (some ⟨w.heap.size, 0, none⟩)))
  case atStart => exact ⟨0, _, by omega, rfl, H, HBwt_3, kb_0_0, Ot_3, Lib.hid (rfl), Lib.hid Dt_3_b_0.out⟩
  case round =>
    obtain ⟨k0, laid_9l0, hkm0, rfl, H, HBwr0, kb_0_0, Olaid_9l0, hnlaid_9l0, Dlaid_9l0_b_0⟩ := hrel
    rename World => wr0
    cases gk with
    | zero =>
      obtain rfl : k0 = b_rows.length := by omega
      have hc0 : decide (((b_rows.length : Nat) : Int) < ((b_rows.length : Nat) : Int)) = false := by simp
      replace H := cnt_zero H
      unfold e0 at H
      replace H := let_hid H
      obtain ⟨_, rfl, H⟩ := H
      obtain rfl := ret_hid H
      go_wp2_with fail
      go_ret
      have hr_0 := hnlaid_9l0.out
      replace Olaid_9l0 := Lib.hid (own_len hr_0 Olaid_9l0.out)
      exact ⟨At_3, ct_3, (by first | (rw [hr_0]; done) | (rw [hr_0]; rfl)), Olaid_9l0.out, HBwr0.out⟩
    | succ m0 =>
      have hlt0 : k0 < b_rows.length := by omega
      have hc0 : decide ((k0 : Int) < ((b_rows.length : Nat) : Int)) = true := by simp; omega
      replace H := cnt_succ H
      unfold l0 at H
      replace H := let_hid H
      obtain ⟨_, rfl, H⟩ := H
      replace H := idx_hid H
      obtain ⟨nt_11, yt_11, et_11, lt_11, gt_11, H⟩ := H
      obtain rfl : k0 = nt_11 := by omega
      clear et_11
      obtain ⟨ab_t_11, ao_t_11, zt_11, At_11, z_t_11, ct_11_0⟩ := strs_at M1_0.out lt_11
      obtain rfl := Option.some.inj (gt_11.out.symm.trans z_t_11)
      subst At_11
      have ltt_11 := cell_lt ct_11_0
      replace ct_11_0 := cell_below HBwr0.out ct_11_0
      clear z_t_11
      have b0t_11 : (0 : Int) ≤ (k0 : Int) := by omega
      have b1t_11 : (k0 : Int) < ((b_rows.length : Nat) : Int) := by omega
      have b2t_11 : ((k0 : Int)).toNat = k0 := by omega
      replace H := let_hid H
      obtain ⟨t_18, ht_18, H⟩ := H
      replace H := idx_hid H
      obtain ⟨nt_19, yt_19, et_19, lt_19, gt_19, H⟩ := H
      subst et_19
      have hqt_19 := hnlaid_9l0.out
      obtain ⟨qt_19, Qt_19⟩ := own_some Olaid_9l0.out (by omega)
      subst Qt_19
      obtain ⟨ab_t_19, ao_t_19, zt_19, At_19, z_t_19, ct_19_0⟩ := strs_at (own_cells Olaid_9l0.out) (k := nt_19) (by omega)
      obtain rfl := Option.some.inj (gt_19.out.symm.trans z_t_19)
      simp only [Option.some.injEq, Addr.mk.injEq] at At_19
      obtain ⟨rfl, rfl, _⟩ := At_19
      clear z_t_19
      simp only [Nat.zero_add] at ct_19_0
      have b0t_19 : (0 : Int) ≤ (nt_19 : Int) := by omega
      have b1t_19 : (nt_19 : Int) < ((t_3.length : Nat) : Int) := by omega
      have b2t_19 : ((nt_19 : Int)).toNat = nt_19 := by omega
      clear hqt_19
      replace H := guard_hid H
      obtain ⟨hnt_21, H⟩ := H
      replace H := let_hid H
      obtain ⟨t_21, ht_21, H⟩ := H
      have Dt_21_laid_9l0 := Lib.hid (apart_fresh Olaid_9l0.out)
      have Dt_21_b_0 := Lib.hid (apart_box kb_0_0)
      obtain ⟨wt_21, ct_21, rt_21, ot_21, bt_21⟩ := Go.Proofs.Ytaepibmmpdfjcaa.GoB.conv_new (P := Try.prog) (w.heap.size) wr0 9 22 5 yt_19 Try.underlying9 Try.underlying22 Try.underlying5 HBwr0.out.size (by omega) ht_21
      have Ot_21 := Lib.hid ot_21
      clear ot_21
      have hht_21 := Lib.hid ht_21
      clear ht_21
      have HBwt_21 := Lib.hid (Below.step HBwr0.out bt_21)
      have kb_0_0__30 := cell_below bt_21 kb_0_0
      have ct_11_0__31 := cell_below bt_21 ct_11_0
      have ct_19_0__32 := cell_below bt_21 ct_19_0
      replace Olaid_9l0 := Lib.hid (own_below Olaid_9l0.out bt_21)
      clear bt_21
      replace H := guard_hid H
      obtain ⟨hg1, H⟩ := H
      go_wp2_with fail
      clear kb_0_0 ct_11_0 ct_19_0 rt_21
      go_wp2_with fail
      go_loopg [33] (yt_11.size) (fun m_ v33_ wr => ∃ (k1 : Nat) (line_12l1 : (List Int)), k1 + m_ = yt_11.size ∧ v33_ = .int .i64 (k1 : Int) ∧ Hid (cntK (l1 col yt_11) m_ k1 (line_12l1) (e1 row_2 (fun s' => cntK (l0 b_rows row_2 col) m0 (k0 + 1) s' (e0 )) laid_9l0 k0) = some r) ∧ Hid (Below w.heap.size w wr) ∧ wr.cell? ⟨w.heap.size, 0, none⟩ = some (.slice (some ⟨ab_t_11, ao_t_11, none⟩) b_rows.length c1_0) ∧ Hid (Go.Proofs.Ytaepibmmpdfjcaa.GoB.ownsB wr w.heap.size 5 1 (.slice (some ⟨wr0.heap.size, 0, none⟩) t_21.length ct_21) t_21.length (Go.Proofs.Ytaepibmmpdfjcaa.GoB.u8s line_12l1)) ∧ Hid (line_12l1.length = t_21.length) ∧ Hid (wr.ownsRow w.heap.size 9 1 (.slice (some ⟨qt_19, 0, none⟩) t_3.length ct_3) t_3.length (laid_9l0.map Value.string)) ∧ Hid (Apart (some ⟨wr0.heap.size, 0, none⟩) (some ⟨qt_19, 0, none⟩)) ∧ Hid (Apart (some ⟨wr0.heap.size, 0, none⟩) (some ⟨w.heap.size, 0, none⟩)))
      case atStart => exact ⟨0, _, by omega, rfl, H, HBwt_21, kb_0_0__30, Ot_21, Lib.hid (rfl), Olaid_9l0, Lib.hid Dt_21_laid_9l0.out, Lib.hid Dt_21_b_0.out⟩
      case round =>
        obtain ⟨k1, line_12l1, hkm1, rfl, H, HBwr1, kb_0_0__30, Oline_12l1, hnline_12l1, Olaid_9l0, Dline_12l1_laid_9l0, Dline_12l1_b_0⟩ := hrel
        rename World => wr1
        cases gk with
        | zero =>
          obtain rfl : k1 = yt_11.size := by omega
          have hc1 : decide (((yt_11.size : Nat) : Int) < ((yt_11.size : Nat) : Int)) = false := by simp
          replace H := cnt_zero H
          unfold e1 at H
          replace H := let_hid H
          obtain ⟨_, rfl, H⟩ := H
          replace H := let_hid H
          obtain ⟨t_47, ht_47, H⟩ := H
          obtain rfl := ht_18.symm.trans ht_47
          replace H := let_hid H
          obtain ⟨t_49, ht_49, H⟩ := H
          have rt_49 := Go.Proofs.Ytaepibmmpdfjcaa.GoB.conv_back (P := Try.prog) Try.underlying22 Try.underlying5 Try.underlying9 Oline_12l1.out ht_49
          have hht_49 := Lib.hid ht_49
          clear ht_49
          replace H := idx_hid H
          obtain ⟨nt_50, yt_50, et_50, lt_50, gt_50, H⟩ := H
          obtain rfl : nt_19 = nt_50 := by omega
          clear et_50
          have hqt_50 := hnlaid_9l0.out
          obtain ⟨ab_t_50, ao_t_50, zt_50, At_50, z_t_50, ct_50_0⟩ := strs_at (own_cells Olaid_9l0.out) (k := nt_19) (by omega)
          obtain rfl := Option.some.inj (gt_50.out.symm.trans z_t_50)
          simp only [Option.some.injEq, Addr.mk.injEq] at At_50
          obtain ⟨rfl, rfl, _⟩ := At_50
          clear z_t_50
          simp only [Nat.zero_add] at ct_50_0
          have b0t_50 : (0 : Int) ≤ (nt_19 : Int) := by omega
          have b1t_50 : (nt_19 : Int) < ((t_3.length : Nat) : Int) := by omega
          have b2t_50 : ((nt_19 : Int)).toNat = nt_19 := by omega
          clear hqt_50
          replace H := let_hid H
          obtain ⟨l51_51, hl51_51, H⟩ := H
          try simp only [Int.toNat_natCast] at hl51_51
          obtain ⟨wl51_51, hwl51_51⟩ : ∃ x, (wr1).setCell ⟨qt_19, nt_19, none⟩ (.string t_49) = x := ⟨_, rfl⟩
          have z0l51_51 := Olaid_9l0.out.frozenAt (nt_19)
          have Sl51_51 := Lib.hid (own_stores [(nt_19, .string t_49)] Olaid_9l0.out)
          have nl51_51 : Hid (l51_51.length = t_3.length) := Lib.hid (by rw [← hl51_51, List.length_set]; exact hnlaid_9l0.out)
          have Pl51_51 : Hid (wl51_51.ownsRow w.heap.size 9 1 (.slice (some ⟨qt_19, 0, none⟩) t_3.length ct_3) t_3.length (l51_51.map Value.string)) := Lib.hid (by have e_ : ([(nt_19, .string t_49)] : List (Nat × Value)).foldl (fun xs p => xs.set p.1 p.2) (laid_9l0.map Value.string) = (l51_51.map Value.string) := (by rw [← hl51_51]; first | done | simp [List.map_set]); rw [← hwl51_51, ← e_]; exact Sl51_51.out.1)
          have Gl51_51 : Hid (wr1.grownBy wl51_51 (Value.slice (some ⟨qt_19, 0, none⟩) t_3.length ct_3).ownBlock) := Lib.hid (by rw [← hwl51_51]; exact Sl51_51.out.2)
          have HBwl51_51 := Lib.hid (HBwr1.out.grown Gl51_51.out HBwr1.out.size (fun q hq => (Olaid_9l0.out.lt q hq).1))
          have hhl51_51 := Lib.hid hl51_51
          clear hl51_51 Sl51_51
          have kb_0_0__33 := cell_other kb_0_0__30 Gl51_51.out Dlaid_9l0_b_0.out
          replace Oline_12l1 := Lib.hid (own_other Oline_12l1.out Gl51_51.out (Apart.symm Dline_12l1_laid_9l0.out))
          clear Olaid_9l0 Gl51_51
          replace H := app_hid H
          go_wp2_with fail
          clear rt_49 z0l51_51 kb_0_0__30 ct_50_0
          go_roundg m0
          case measure => omega
          case rel => exact ⟨k0 + 1, _, by omega, by go_num, H, HBwl51_51, kb_0_0__33, Pl51_51, Lib.hid (nl51_51.out), Lib.hid Dlaid_9l0_b_0.out⟩
        | succ m1 =>
          have hlt1 : k1 < yt_11.size := by omega
          have hc1 : decide ((k1 : Int) < ((yt_11.size : Nat) : Int)) = true := by simp; omega
          replace H := cnt_succ H
          unfold l1 at H
          replace H := let_hid H
          obtain ⟨_, rfl, H⟩ := H
          replace H := idx_hid H
          obtain ⟨nt_31, yt_31, et_31, lt_31, gt_31, H⟩ := H
          obtain rfl : k1 = nt_31 := by omega
          clear et_31
          have rt_31 := byte_rule lt_31 gt_31.out
          have b0t_31 : (0 : Int) ≤ (k1 : Int) := by omega
          have b1t_31 : (k1 : Int) < (yt_11.size : Int) := by have := size_list yt_11; omega
          have b2t_31 : ((k1 : Int)).toNat = k1 := by omega
          have b3t_31 : k1 < yt_11.size := by have := size_list yt_11; omega
          replace H := let_hid H
          obtain ⟨t_31, ht_31, H⟩ := H
          replace H := let_hid H
          obtain ⟨t_32, ht_32, H⟩ := H
          cases t_32 with
          | false =>
            replace H := ite_f H
            replace H := app_hid H
            go_wp2_with fail
            go_roundg m1
            case measure => omega
            case rel => exact ⟨k1 + 1, _, by omega, by go_num, H, HBwr1, kb_0_0__30, Oline_12l1, Lib.hid (hnline_12l1.out), Olaid_9l0, Lib.hid Dline_12l1_laid_9l0.out, Lib.hid Dline_12l1_b_0.out⟩
          | true =>
            replace H := ite_t H
            replace H := let_hid H
            obtain ⟨t_36, ht_36, H⟩ := H
            replace H := idx_hid H
            obtain ⟨nt_39, yt_39, et_39, lt_39, gt_39, H⟩ := H
            obtain rfl : k1 = nt_39 := by omega
            clear et_39
            obtain rfl := Option.some.inj (gt_31.out.symm.trans gt_39.out)
            clear gt_39 lt_39
            replace H := let_hid H
            obtain ⟨t_39, ht_39, H⟩ := H
            obtain rfl := ht_31.symm.trans ht_39
            replace H := idx_hid H
            obtain ⟨nt_40, yt_40, et_40, lt_40, gt_40, H⟩ := H
            subst et_40
            have hqt_40 := hnline_12l1.out
            obtain ⟨ab_t_40, ao_t_40, zt_40, At_40, z_t_40, ct_40_0⟩ := Go.Proofs.Ytaepibmmpdfjcaa.GoB.u8_at (own_cells Oline_12l1.out) (k := nt_40) (by omega)
            obtain rfl := Option.some.inj (gt_40.out.symm.trans z_t_40)
            simp only [Option.some.injEq, Addr.mk.injEq] at At_40
            obtain ⟨rfl, rfl, _⟩ := At_40
            clear z_t_40
            simp only [Nat.zero_add] at ct_40_0
            have b0t_40 : (0 : Int) ≤ (nt_40 : Int) := by omega
            have b1t_40 : (nt_40 : Int) < ((t_21.length : Nat) : Int) := by omega
            have b2t_40 : ((nt_40 : Int)).toNat = nt_40 := by omega
            clear hqt_40
            replace H := let_hid H
            obtain ⟨l41_41, hl41_41, H⟩ := H
            try simp only [Int.toNat_natCast] at hl41_41
            obtain ⟨wl41_41, hwl41_41⟩ : ∃ x, (wr1).setCell ⟨wr0.heap.size, nt_40, none⟩ (.int .u8 t_31) = x := ⟨_, rfl⟩
            have z0l41_41 := Oline_12l1.out.frozenAt (nt_40) (by have hz_ := lt_40; have hy_ := hnline_12l1.out; omega)
            have Sl41_41 := Lib.hid (own_stores [(nt_40, .int .u8 t_31)] Oline_12l1.out)
            have nl41_41 : Hid (l41_41.length = t_21.length) := Lib.hid (by rw [← hl41_41, List.length_set]; exact hnline_12l1.out)
            have Pl41_41 : Hid (Go.Proofs.Ytaepibmmpdfjcaa.GoB.ownsB wl41_41 w.heap.size 5 1 (.slice (some ⟨wr0.heap.size, 0, none⟩) t_21.length ct_21) t_21.length (Go.Proofs.Ytaepibmmpdfjcaa.GoB.u8s l41_41)) := Lib.hid (by have e_ : ([(nt_40, .int .u8 t_31)] : List (Nat × Value)).foldl (fun xs p => xs.set p.1 p.2) (Go.Proofs.Ytaepibmmpdfjcaa.GoB.u8s line_12l1) = (Go.Proofs.Ytaepibmmpdfjcaa.GoB.u8s l41_41) := (by rw [← hl41_41]; first | done | simp [Go.Proofs.Ytaepibmmpdfjcaa.GoB.u8s, List.map_set]); rw [← hwl41_41, ← e_]; exact Sl41_41.out.1)
            have Gl41_41 : Hid (wr1.grownBy wl41_41 (Value.slice (some ⟨wr0.heap.size, 0, none⟩) t_21.length ct_21).ownBlock) := Lib.hid (by rw [← hwl41_41]; exact Sl41_41.out.2)
            have HBwl41_41 := Lib.hid (HBwr1.out.grown Gl41_41.out HBwr1.out.size (fun q hq => (Oline_12l1.out.lt q hq).1))
            have hhl41_41 := Lib.hid hl41_41
            clear hl41_41 Sl41_41
            have kb_0_0__34 := cell_other kb_0_0__30 Gl41_41.out Dline_12l1_b_0.out
            replace Olaid_9l0 := Lib.hid (own_other Olaid_9l0.out Gl41_41.out Dline_12l1_laid_9l0.out)
            clear Oline_12l1 Gl41_41
            replace H := app_hid H
            go_wp2_with fail
            clear z0l41_41 kb_0_0__30 ct_40_0
            go_roundg m1
            case measure => omega
            case rel => exact ⟨k1 + 1, _, by omega, by go_num, H, HBwl41_41, kb_0_0__34, Pl41_41, Lib.hid (nl41_41.out), Olaid_9l0, Lib.hid Dline_12l1_laid_9l0.out, Lib.hid Dline_12l1_b_0.out⟩
end Go.Proofs.Ytaepibmmpdfjcaa.GiLaidOn

/- loop.example/g01062/impl.LayBlock as a plain function, and the contract of the program's: where the plain one has an answer, the program has it. Conditions: slices read as lists. -/
namespace Go.Proofs.Ytaepibmmpdfjcaa.GiLayBlock
set_option linter.unusedVariables false
set_option linter.unusedSimpArgs false
open Go.RowKit
open Go.Proofs.Ytaepibmmpdfjcaa.Rowed Go.Proofs.Ytaepibmmpdfjcaa.Turn Go.Proofs.Ytaepibmmpdfjcaa.Aid Go.Proofs.Ytaepibmmpdfjcaa.GoP Go.Proofs.Ytaepibmmpdfjcaa.GoM

def P (sheet : (List ByteArray)) (b_rows : (List ByteArray)) (row_2 : Int) (col : Int) : Option ((List ByteArray) × Bool) :=
  Option.bind (Go.Proofs.Ytaepibmmpdfjcaa.GiIsSheet.P sheet) fun (t_4 : Bool) =>
  letK (!t_4) fun (t_5 : Bool) =>
  joinK (fun (t_10 : Bool) =>
  joinK (fun (t_18 : Bool) =>
  iteK t_18
  (some (([] : List ByteArray), false))
  (Option.bind (Go.Proofs.Ytaepibmmpdfjcaa.GiLaidOn.P sheet b_rows row_2 col) fun (t_26 : (List ByteArray)) =>
  some (t_26, true))) fun jt_18 => iteK t_10 (appK jt_18 true) (Option.bind (Go.Proofs.Ytaepibmmpdfjcaa.GiFits.P sheet b_rows row_2 col) fun (t_16 : Bool) =>
  letK (!t_16) fun (t_17 : Bool) =>
  appK jt_18 t_17)) fun jt_10 => iteK t_5 (appK jt_10 true) (Option.bind (Go.Proofs.Ytaepibmmpdfjcaa.GiIsBlock.P b_rows) fun (t_8 : Bool) =>
  letK (!t_8) fun (t_9 : Bool) =>
  appK jt_10 t_9)

set_option maxRecDepth 100000 in
set_option maxHeartbeats 2000000 in
theorem C (sheet : (List ByteArray)) (b_rows : (List ByteArray)) (row_2 : Int) (col : Int) (A0 : Option Addr) (c0 : Nat) (A1_0 : Option Addr) (c1_0 : Nat)  (w : World) (M0 : Hid (Cells w 1 A0 sheet.length (sheet.map Value.string))) (N0 : Hid (sheet.length ≤ 9223372036854775807)) (Q0 : Hid (Room A0 sheet.length c0)) (M1_0 : Hid (Cells w 1 A1_0 b_rows.length (b_rows.map Value.string))) (N1_0 : Hid (b_rows.length ≤ 9223372036854775807)) (Q1_0 : Hid (Room A1_0 b_rows.length c1_0))  {r0 : (List ByteArray)} {r1 : Bool} (H : Hid (P sheet b_rows row_2 col = some (r0, r1))) :
    Calls Try.prog 17 #[.slice A0 sheet.length c0, .agg #[.slice A1_0 b_rows.length c1_0], .int .i64 row_2, .int .i64 col] w (fun e w' => ∃ A_r0 c_r0, e = .returned (.tuple #[.slice A_r0 r0.length c_r0, .bool r1]) ∧ w'.ownsRow w.heap.size 9 1 (.slice A_r0 r0.length c_r0) r0.length (r0.map Value.string) ∧ Below w.heap.size w w') := by
  have HB := Lib.hid (Below.refl w.heap.size w)
  unfold P at H
  have N0o := N0.out
  have N1_0o := N1_0.out
  go_enter Try.func17, Try.ntmps17
  obtain ⟨w_b_0, hw_b_0⟩ : ∃ x, w.alloc (.cells #[.slice A1_0 b_rows.length c1_0] 26) = x := ⟨_, rfl⟩
  have bw_b_0 : Below w.heap.size w w_b_0 := by rw [← hw_b_0]; exact (Below.refl _ _).alloc (Nat.le_refl _) _
  have HBw_b_0 := Lib.hid (Below.step HB.out bw_b_0)
  clear bw_b_0
  have kb_0_0 : w_b_0.cell? ⟨w.heap.size, 0, none⟩ = some (.slice A1_0 b_rows.length c1_0) := by rw [← hw_b_0]; exact box_new _ _ _ 0 _ rfl
  replace H := bind_hid H
  obtain ⟨t_4, qt_4, H⟩ := H
  go_wp2_with fail
  go_at_call 15
  refine (Go.Proofs.Ytaepibmmpdfjcaa.GiIsSheet.C (sheet) A0 c0 _   (Lib.hid (Cells.below M0.out HBw_b_0.out)) N0 qt_4).mono ?_
  rintro e_t_4 wt_4 ⟨rfl, bt_4⟩
  have HBwt_4 := Lib.hid (Below.step HBw_b_0.out bt_4)
  replace kb_0_0 := cell_below bt_4 kb_0_0
  clear bt_4
  cases t_4 with
  | false =>
    replace H := let_hid H
    obtain ⟨t_5, ht_5, H⟩ := H
    obtain rfl : t_5 = true := ht_5.symm
    replace H := join_hid H
    replace H := ite_t H
    replace H := app_hid H
    replace H := join_hid H
    replace H := ite_t H
    replace H := app_hid H
    replace H := ite_t H
    obtain ⟨w_t_19, hw_t_19⟩ : ∃ x, wt_4.alloc (.cells #[] 9) = x := ⟨_, rfl⟩
    have bw_t_19 : Below wt_4.heap.size wt_4 w_t_19 := by rw [← hw_t_19]; exact (Below.refl _ _).alloc (Nat.le_refl _) _
    have Ot_19 : Hid (w_t_19.ownsRow w.heap.size 9 1 (.slice (some ⟨wt_4.heap.size, 0, none⟩) 0 0) 0 []) := Lib.hid (by rw [← hw_t_19]; exact own_empty HBwt_4.out.size)
    have Dt_19_b_0 := Lib.hid (apart_box kb_0_0)
    have HBw_t_19 := Lib.hid (Below.step HBwt_4.out bw_t_19)
    have kb_0_0__35 := cell_below bw_t_19 kb_0_0
    clear bw_t_19
    cases ret_hid H
    go_wp2_with fail
    go_ret2
    exact ⟨(some ⟨wt_4.heap.size, 0, none⟩), 0, rfl, Ot_19.out, HBw_t_19.out⟩
  | true =>
    replace H := let_hid H
    obtain ⟨t_5, ht_5, H⟩ := H
    obtain rfl : t_5 = false := ht_5.symm
    replace H := join_hid H
    replace H := ite_f H
    replace H := bind_hid H
    obtain ⟨t_8, qt_8, H⟩ := H
    go_wp2_with fail
    go_at_call 16
    refine (Go.Proofs.Ytaepibmmpdfjcaa.GiIsBlock.C (b_rows) A1_0 c1_0 _   (Lib.hid (Cells.below M1_0.out HBwt_4.out)) N1_0 qt_8).mono ?_
    rintro e_t_8 wt_8 ⟨rfl, bt_8⟩
    have HBwt_8 := Lib.hid (Below.step HBwt_4.out bt_8)
    replace kb_0_0 := cell_below bt_8 kb_0_0
    clear bt_8
    cases t_8 with
    | false =>
      replace H := let_hid H
      obtain ⟨t_9, ht_9, H⟩ := H
      obtain rfl : t_9 = true := ht_9.symm
      replace H := app_hid H
      replace H := join_hid H
      replace H := ite_t H
      replace H := app_hid H
      replace H := ite_t H
      obtain ⟨w_t_19, hw_t_19⟩ : ∃ x, wt_8.alloc (.cells #[] 9) = x := ⟨_, rfl⟩
      have bw_t_19 : Below wt_8.heap.size wt_8 w_t_19 := by rw [← hw_t_19]; exact (Below.refl _ _).alloc (Nat.le_refl _) _
      have Ot_19 : Hid (w_t_19.ownsRow w.heap.size 9 1 (.slice (some ⟨wt_8.heap.size, 0, none⟩) 0 0) 0 []) := Lib.hid (by rw [← hw_t_19]; exact own_empty HBwt_8.out.size)
      have Dt_19_b_0 := Lib.hid (apart_box kb_0_0)
      have HBw_t_19 := Lib.hid (Below.step HBwt_8.out bw_t_19)
      have kb_0_0__36 := cell_below bw_t_19 kb_0_0
      clear bw_t_19
      cases ret_hid H
      go_wp2_with fail
      go_ret2
      exact ⟨(some ⟨wt_8.heap.size, 0, none⟩), 0, rfl, Ot_19.out, HBw_t_19.out⟩
    | true =>
      replace H := let_hid H
      obtain ⟨t_9, ht_9, H⟩ := H
      obtain rfl : t_9 = false := ht_9.symm
      replace H := app_hid H
      replace H := join_hid H
      replace H := ite_f H
      replace H := bind_hid H
      obtain ⟨t_16, qt_16, H⟩ := H
      go_wp2_with fail
      go_at_call 56
      refine (Go.Proofs.Ytaepibmmpdfjcaa.GiFits.C (sheet) (b_rows) (row_2) (col) A0 c0 A1_0 c1_0 _   (Lib.hid (Cells.below M0.out HBwt_8.out)) N0 (Lib.hid (Cells.below M1_0.out HBwt_8.out)) N1_0 qt_16).mono ?_
      rintro e_t_16 wt_16 ⟨rfl, bt_16⟩
      have HBwt_16 := Lib.hid (Below.step HBwt_8.out bt_16)
      replace kb_0_0 := cell_below bt_16 kb_0_0
      clear bt_16
      cases t_16 with
      | false =>
        replace H := let_hid H
        obtain ⟨t_17, ht_17, H⟩ := H
        obtain rfl : t_17 = true := ht_17.symm
        replace H := app_hid H
        replace H := ite_t H
        obtain ⟨w_t_19, hw_t_19⟩ : ∃ x, wt_16.alloc (.cells #[] 9) = x := ⟨_, rfl⟩
        have bw_t_19 : Below wt_16.heap.size wt_16 w_t_19 := by rw [← hw_t_19]; exact (Below.refl _ _).alloc (Nat.le_refl _) _
        have Ot_19 : Hid (w_t_19.ownsRow w.heap.size 9 1 (.slice (some ⟨wt_16.heap.size, 0, none⟩) 0 0) 0 []) := Lib.hid (by rw [← hw_t_19]; exact own_empty HBwt_16.out.size)
        have Dt_19_b_0 := Lib.hid (apart_box kb_0_0)
        have HBw_t_19 := Lib.hid (Below.step HBwt_16.out bw_t_19)
        have kb_0_0__37 := cell_below bw_t_19 kb_0_0
        clear bw_t_19
        cases ret_hid H
        go_wp2_with fail
        go_ret2
        exact ⟨(some ⟨wt_16.heap.size, 0, none⟩), 0, rfl, Ot_19.out, HBw_t_19.out⟩
      | true =>
        replace H := let_hid H
        obtain ⟨t_17, ht_17, H⟩ := H
        obtain rfl : t_17 = false := ht_17.symm
        replace H := app_hid H
        replace H := ite_f H
        replace H := bind_hid H
        obtain ⟨t_26, qt_26, H⟩ := H
        go_wp2_with fail
        go_at_call 57
        refine (Go.Proofs.Ytaepibmmpdfjcaa.GiLaidOn.C (sheet) (b_rows) (row_2) (col) A0 c0 A1_0 c1_0 _   (Lib.hid (Cells.below M0.out HBwt_16.out)) N0 Q0 (Lib.hid (Cells.below M1_0.out HBwt_16.out)) N1_0 Q1_0 qt_26).mono ?_
        rintro e_t_26 wt_26 ⟨At_26, ct_26, rfl, ot_26, bt_26⟩
        have Dt_26_b_0 := Lib.hid (apart_callbox ot_26 kb_0_0)
        have Ot_26 := Lib.hid (own_lower ot_26 HBwt_16.out.size)
        clear ot_26
        have HBwt_26 := Lib.hid (Below.step HBwt_16.out bt_26)
        replace kb_0_0 := cell_below bt_26 kb_0_0
        clear bt_26
        cases ret_hid H
        go_wp2_with fail
        go_ret2
        exact ⟨At_26, ct_26, rfl, Ot_26.out, HBwt_26.out⟩
end Go.Proofs.Ytaepibmmpdfjcaa.GiLayBlock

