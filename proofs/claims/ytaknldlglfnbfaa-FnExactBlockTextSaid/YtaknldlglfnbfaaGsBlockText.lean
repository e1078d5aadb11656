/- loop.example/g01062/spec.BlockText as a plain function, and the contract of the program's: where the plain one has an answer, the program has it. Conditions: slices read as lists. -/
import Derived.Test.YtaknldlglfnbfaaChecked
import Derived.Test.YtaknldlglfnbfaaGoM
import Derived.Test.YtaknldlglfnbfaaGoRBlock
import Derived.Test.YtaknldlglfnbfaaGsIsBlock
import Derived.WalkKit
import Derived.WalkSpells
import Derived.WalkLawsBesides
import Derived.BigQuiet
import Derived.OwnWalk
import Derived.Deep.LoopGhost
import Derived.Deep.QuietTactic
import Derived.IntWalk
import Derived.Lib.QuietBelow
namespace Go.Proofs.Ytaknldlglfnbfaa.GsBlockText
set_option linter.unusedVariables false
set_option linter.unusedSimpArgs false
open Go.RowKit
open Go.Proofs.Ytaknldlglfnbfaa.Rowed Go.Proofs.Ytaknldlglfnbfaa.Turn Go.Proofs.Ytaknldlglfnbfaa.Aid Go.Proofs.Ytaknldlglfnbfaa.GoP Go.Proofs.Ytaknldlglfnbfaa.GoM

def j0 (b_rows : (List ByteArray)) (nx0 : (ByteArray × Int) → Option (ByteArray × Bool)) (i_5l0 : Int) (s : ByteArray) : Option (ByteArray × Bool) :=
  Option.bind (idx b_rows i_5l0) fun (yt_24 : ByteArray) =>
  guardK (s.size + yt_24.size ≤ maxLen) <|
  letK (s ++ yt_24) fun (t_26 : ByteArray) =>
  letK (IntKind.i64.wrap (i_5l0 + 1)) fun (t_29 : Int) =>
  appK nx0 (t_26, t_29)

def l0 (b_rows : (List ByteArray)) (s : ByteArray × Int) (nx0 bk0 : ByteArray × Int → Option (ByteArray × Bool)) : Option (ByteArray × Bool) :=
  unp2 s fun s_4l0 i_5l0 =>
  letK (decide (i_5l0 < (b_rows.length : Int))) fun (t_14 : Bool) =>
  iteK t_14
  (letK (decide (0 < i_5l0)) fun (t_16 : Bool) =>
  iteK t_16
  (guardK (s_4l0.size + (⟨#[47]⟩ : ByteArray).size ≤ maxLen) <|
  letK (s_4l0 ++ (⟨#[47]⟩ : ByteArray)) fun (t_18 : ByteArray) =>
  j0 b_rows nx0 i_5l0 (t_18))
  (j0 b_rows nx0 i_5l0 (s_4l0)))
  (appK bk0 (s_4l0, i_5l0))

def e0  (s : ByteArray × Int) : Option (ByteArray × Bool) :=
  unp2 s fun s_4l0 i_5l0 =>
  some (s_4l0, true)

def P (fuel : Nat) (b_rows : (List ByteArray)) : Option (ByteArray × Bool) :=
  Option.bind (Go.Proofs.Ytaknldlglfnbfaa.GsIsBlock.P fuel b_rows) fun (t_4 : Bool) =>
  letK (!t_4) fun (t_5 : Bool) =>
  iteK t_5
  (some ((⟨#[]⟩ : ByteArray), false))
  (loopK (l0 b_rows) fuel ((⟨#[]⟩ : ByteArray), 0) (e0 ))

set_option maxRecDepth 100000 in
set_option maxHeartbeats 2000000 in
theorem C (fuel : Nat) (b_rows : (List ByteArray)) (A0_0 : Option Addr) (c0_0 : Nat)  (w : World) (M0_0 : Hid (Cells w 1 A0_0 b_rows.length (b_rows.map Value.string))) (N0_0 : Hid (b_rows.length ≤ 9223372036854775807))  {r0 : ByteArray} {r1 : Bool} (H : Hid (P fuel b_rows = some (r0, r1))) :
    Calls Try.prog 61 #[.agg #[.slice A0_0 b_rows.length c0_0]] w (Gives (.tuple #[.string r0, .bool r1]) w) := by
  have HB := Lib.hid (Below.refl w.heap.size w)
  unfold P at H
  have N0_0o := N0_0.out
  go_enter Try.func61, Try.ntmps61
  obtain ⟨w_b_0, hw_b_0⟩ : ∃ x, w.alloc (.cells #[.slice A0_0 b_rows.length c0_0] 57) = x := ⟨_, rfl⟩
  have bw_b_0 : Below w.heap.size w w_b_0 := by rw [← hw_b_0]; exact (Below.refl _ _).alloc (Nat.le_refl _) _
  have HBw_b_0 := Lib.hid (Below.step HB.out bw_b_0)
  clear bw_b_0
  have kb_0_0 : w_b_0.cell? ⟨w.heap.size, 0, none⟩ = some (.slice A0_0 b_rows.length c0_0) := by rw [← hw_b_0]; exact box_new _ _ _ 0 _ rfl
  replace H := bind_hid H
  obtain ⟨t_4, qt_4, H⟩ := H
  go_wp2_with fail
  go_at_call 85
  refine (Go.Proofs.Ytaknldlglfnbfaa.GsIsBlock.C fuel (b_rows) A0_0 c0_0 _  (Lib.hid (Cells.below M0_0.out HBw_b_0.out)) N0_0 qt_4).mono ?_
  rintro e_t_4 wt_4 ⟨rfl, bt_4⟩
  have HBwt_4 := Lib.hid (Below.step HBw_b_0.out bt_4)
  replace kb_0_0 := cell_below bt_4 kb_0_0
  clear bt_4
  cases t_4 with
  | false =>
    replace H := let_hid H
    obtain ⟨t_5, ht_5, H⟩ := H
    obtain rfl : t_5 = true := ht_5.symm
    replace H := ite_t H
    cases ret_hid H
    go_wp2_with fail
    go_ret2
    exact ⟨rfl, HBwt_4.out⟩
  | true =>
    replace H := let_hid H
    obtain ⟨t_5, ht_5, H⟩ := H
    obtain rfl : t_5 = false := ht_5.symm
    replace H := ite_f H
    go_wp2_with fail
    go_loopg [4, 5] (fuel) (fun m_ v4_ v5_ wr => ∃ (s_4l0 : ByteArray) (i_5l0 : Int), v4_ = .string s_4l0 ∧ v5_ = .int .i64 i_5l0 ∧ Hid (loopK (l0 b_rows) m_ (s_4l0, i_5l0) (e0 ) = some (r0, r1)) ∧ Hid (Below w.heap.size w wr) ∧ wr.cell? ⟨w.heap.size, 0, none⟩ = some (.slice A0_0 b_rows.length c0_0))
    case atStart => exact ⟨_, _, rfl, rfl, H, HBwt_4, kb_0_0⟩
    case round =>
      obtain ⟨s_4l0, i_5l0, rfl, rfl, H, HBwr0, kb_0_0⟩ := hrel
      rename World => wr0
      cases gk with
      | zero => exact (loop_zero H).elim
      | succ m0 =>
        replace H := loop_succ H
        unfold l0 at H
        replace H := unp2_hid H
        replace H := let_hid H
        obtain ⟨t_14, ht_14, H⟩ := H
        cases t_14 with
        | false =>
          replace H := ite_f H
          replace H := app_hid H
          unfold e0 at H
          replace H := unp2_hid H
          cases ret_hid H
          go_wp2_with fail
          go_ret2
          exact ⟨rfl, HBwr0.out⟩
        | true =>
          replace H := ite_t H
          replace H := let_hid H
          obtain ⟨t_16, ht_16, H⟩ := H
          cases t_16 with
          | false =>
            replace H := ite_f H
            unfold j0 at H
            replace H := idx_hid H
            obtain ⟨nt_24, yt_24, et_24, lt_24, gt_24, H⟩ := H
            subst et_24
            have nc_13 : nt_24 < b_rows.length := by have := of_decide_eq_true ht_14; omega
            have nc_14 : ¬ (0 < nt_24) := by have := of_decide_eq_false ht_16; omega
            obtain ⟨ab_t_24, ao_t_24, zt_24, At_24, z_t_24, ct_24_0⟩ := strs_at M0_0.out lt_24
            obtain rfl := Option.some.inj (gt_24.out.symm.trans z_t_24)
            subst At_24
            have ltt_24 := cell_lt ct_24_0
            replace ct_24_0 := cell_below HBwr0.out ct_24_0
            clear z_t_24
            have b0t_24 : (0 : Int) ≤ (nt_24 : Int) := by omega
            have b1t_24 : (nt_24 : Int) < ((b_rows.length : Nat) : Int) := by omega
            have b2t_24 : ((nt_24 : Int)).toNat = nt_24 := by omega
            replace H := guard_hid H
            obtain ⟨hl_t_26, H⟩ := H
            replace H := let_hid H
            obtain ⟨t_26, ht_26, H⟩ := H
            have ct_26 := cat_rule (P := Try.prog) ht_26 hl_t_26
            clear hl_t_26
            have hht_26 := Lib.hid ht_26
            clear ht_26
            replace H := let_hid H
            obtain ⟨t_29, ht_29, H⟩ := H
            replace H := app_hid H
            go_wp2_with fail
            go_roundg m0
            case measure => omega
            case rel => exact ⟨_, _, rfl, rfl, H, HBwr0, kb_0_0⟩
          | true =>
            replace H := ite_t H
            replace H := guard_hid H
            obtain ⟨hl_t_18, H⟩ := H
            replace H := let_hid H
            obtain ⟨t_18, ht_18, H⟩ := H
            have ct_18 := cat_rule (P := Try.prog) ht_18 hl_t_18
            clear hl_t_18
            have hht_18 := Lib.hid ht_18
            clear ht_18
            unfold j0 at H
            replace H := idx_hid H
            obtain ⟨nt_24, yt_24, et_24, lt_24, gt_24, H⟩ := H
            subst et_24
            have nc_15 : nt_24 < b_rows.length := by have := of_decide_eq_true ht_14; omega
            have nc_16 : 0 < nt_24 := by have := of_decide_eq_true ht_16; omega
            obtain ⟨ab_t_24, ao_t_24, zt_24, At_24, z_t_24, ct_24_0⟩ := strs_at M0_0.out lt_24
            obtain rfl := Option.some.inj (gt_24.out.symm.trans z_t_24)
            subst At_24
            have ltt_24 := cell_lt ct_24_0
            replace ct_24_0 := cell_below HBwr0.out ct_24_0
            clear z_t_24
            have b0t_24 : (0 : Int) ≤ (nt_24 : Int) := by omega
            have b1t_24 : (nt_24 : Int) < ((b_rows.length : Nat) : Int) := by omega
            have b2t_24 : ((nt_24 : Int)).toNat = nt_24 := by omega
            replace H := guard_hid H
            obtain ⟨hl_t_26, H⟩ := H
            replace H := let_hid H
            obtain ⟨t_26, ht_26, H⟩ := H
            have ct_26 := cat_rule (P := Try.prog) ht_26 hl_t_26
            clear hl_t_26
            have hht_26 := Lib.hid ht_26
            clear ht_26
            replace H := let_hid H
            obtain ⟨t_29, ht_29, H⟩ := H
            replace H := app_hid H
            go_wp2_with fail
            go_roundg m0
            case measure => omega
            case rel => exact ⟨_, _, rfl, rfl, H, HBwr0, kb_0_0⟩
end Go.Proofs.Ytaknldlglfnbfaa.GsBlockText
