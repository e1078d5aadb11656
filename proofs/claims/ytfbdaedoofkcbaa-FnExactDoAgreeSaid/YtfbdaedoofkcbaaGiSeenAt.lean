/- loop.example/g01062/impl.seenAt as a plain function, and the contract of the program's: where the plain one has an answer, the program has it. Conditions: slices read as lists. -/
import Derived.Test.YtfbdaedoofkcbaaChecked
import Derived.Test.YtfbdaedoofkcbaaGoM
import Derived.Test.YtfbdaedoofkcbaaGiWithin
import Derived.WalkKit
import Derived.WalkSpells
import Derived.WalkLawsBesides
import Derived.BigQuiet
import Derived.OwnWalk
import Derived.Deep.LoopGhost
import Derived.Deep.QuietTactic
import Derived.IntWalk
import Derived.Lib.QuietBelow
namespace Go.Proofs.Ytfbdaedoofkcbaa.GiSeenAt
set_option linter.unusedVariables false
set_option linter.unusedSimpArgs false
open Go.RowKit
open Go.Proofs.Ytfbdaedoofkcbaa.Rowed Go.Proofs.Ytfbdaedoofkcbaa.Turn Go.Proofs.Ytfbdaedoofkcbaa.Aid Go.Proofs.Ytfbdaedoofkcbaa.GoP Go.Proofs.Ytfbdaedoofkcbaa.GoM

def P (rows : (List ByteArray)) (row_1 : Int) (col : Int) : Option (Int) :=
  letK (IntKind.i64.wrap ((rows.length : Int) - 1)) fun (t_4 : Int) =>
  Option.bind (Go.Proofs.Ytfbdaedoofkcbaa.GiWithin.P row_1 0 t_4) fun (t_5 : Bool) =>
  letK (!t_5) fun (t_6 : Bool) =>
  joinK (fun (t_17 : Bool) =>
  iteK t_17
  (some 46)
  (Option.bind (idx rows row_1) fun (yt_21 : ByteArray) =>
  Option.bind (idx yt_21.toList col) fun (yt_24 : UInt8) =>
  letK ((yt_24.toNat : Int)) fun (t_24 : Int) =>
  some t_24)) fun jt_17 => iteK t_6 (appK jt_17 true) (Option.bind (idx rows row_1) fun (yt_11 : ByteArray) =>
  letK (IntKind.i64.wrap ((yt_11.size : Int) - 1)) fun (t_14 : Int) =>
  Option.bind (Go.Proofs.Ytfbdaedoofkcbaa.GiWithin.P col 0 t_14) fun (t_15 : Bool) =>
  letK (!t_15) fun (t_16 : Bool) =>
  appK jt_17 t_16)

set_option maxRecDepth 100000 in
set_option maxHeartbeats 2000000 in
theorem C (rows : (List ByteArray)) (row_1 : Int) (col : Int) (A0 : Option Addr) (c0 : Nat)  (w : World) (M0 : Hid (Cells w 1 A0 rows.length (rows.map Value.string))) (N0 : Hid (rows.length ≤ 9223372036854775807))  {r : Int} (H : Hid (P rows row_1 col = some r)) :
    Calls Try.prog 96 #[.slice A0 rows.length c0, .int .i64 row_1, .int .i64 col] w (Gives (.int .u8 r) w) := by
  have HB := Lib.hid (Below.refl w.heap.size w)
  unfold P at H
  have N0o := N0.out
  go_enter Try.func96, Try.ntmps96
  replace H := let_hid H
  obtain ⟨t_4, ht_4, H⟩ := H
  replace H := bind_hid H
  obtain ⟨t_5, qt_5, H⟩ := H
  go_wp2_with fail
  go_at_call 78
  refine (Go.Proofs.Ytfbdaedoofkcbaa.GiWithin.C (row_1) (0) (t_4)  _  qt_5).mono ?_
  rintro e_t_5 wt_5 ⟨rfl, bt_5⟩
  have HBwt_5 := Lib.hid (Below.step HB.out bt_5)
  clear bt_5
  cases t_5 with
  | false =>
    replace H := let_hid H
    obtain ⟨t_6, ht_6, H⟩ := H
    obtain rfl : t_6 = true := ht_6.symm
    replace H := join_hid H
    replace H := ite_t H
    replace H := app_hid H
    replace H := ite_t H
    obtain rfl := ret_hid H
    go_wp2_with fail
    go_ret
    exact ⟨rfl, HBwt_5.out⟩
  | true =>
    replace H := let_hid H
    obtain ⟨t_6, ht_6, H⟩ := H
    obtain rfl : t_6 = false := ht_6.symm
    replace H := join_hid H
    replace H := ite_f H
    replace H := idx_hid H
    obtain ⟨nt_11, yt_11, et_11, lt_11, gt_11, H⟩ := H
    subst et_11
    obtain ⟨ab_t_11, ao_t_11, zt_11, At_11, z_t_11, ct_11_0⟩ := strs_at M0.out lt_11
    obtain rfl := Option.some.inj (gt_11.out.symm.trans z_t_11)
    subst At_11
    have ltt_11 := cell_lt ct_11_0
    replace ct_11_0 := cell_below HBwt_5.out ct_11_0
    clear z_t_11
    have b0t_11 : (0 : Int) ≤ (nt_11 : Int) := by omega
    have b1t_11 : (nt_11 : Int) < ((rows.length : Nat) : Int) := by omega
    have b2t_11 : ((nt_11 : Int)).toNat = nt_11 := by omega
    replace H := let_hid H
    obtain ⟨t_14, ht_14, H⟩ := H
    replace H := bind_hid H
    obtain ⟨t_15, qt_15, H⟩ := H
    go_wp2_with fail
    go_at_call 78
    refine (Go.Proofs.Ytfbdaedoofkcbaa.GiWithin.C (col) (0) (t_14)  _  qt_15).mono ?_
    rintro e_t_15 wt_15 ⟨rfl, bt_15⟩
    have HBwt_15 := Lib.hid (Below.step HBwt_5.out bt_15)
    replace ct_11_0 := cell_below bt_15 ct_11_0
    clear bt_15
    cases t_15 with
    | false =>
      replace H := let_hid H
      obtain ⟨t_16, ht_16, H⟩ := H
      obtain rfl : t_16 = true := ht_16.symm
      replace H := app_hid H
      replace H := ite_t H
      obtain rfl := ret_hid H
      go_wp2_with fail
      go_ret
      exact ⟨rfl, HBwt_15.out⟩
    | true =>
      replace H := let_hid H
      obtain ⟨t_16, ht_16, H⟩ := H
      obtain rfl : t_16 = false := ht_16.symm
      replace H := app_hid H
      replace H := ite_f H
      replace H := idx_hid H
      obtain ⟨nt_21, yt_21, et_21, lt_21, gt_21, H⟩ := H
      obtain rfl : nt_11 = nt_21 := by omega
      clear et_21
      obtain rfl := Option.some.inj (gt_11.out.symm.trans gt_21.out)
      clear gt_21 lt_21
      replace H := idx_hid H
      obtain ⟨nt_24, yt_24, et_24, lt_24, gt_24, H⟩ := H
      subst et_24
      have rt_24 := byte_rule lt_24 gt_24.out
      have b0t_24 : (0 : Int) ≤ (nt_24 : Int) := by omega
      have b1t_24 : (nt_24 : Int) < (yt_11.size : Int) := by have := size_list yt_11; omega
      have b2t_24 : ((nt_24 : Int)).toNat = nt_24 := by omega
      have b3t_24 : nt_24 < yt_11.size := by have := size_list yt_11; omega
      replace H := let_hid H
      obtain ⟨t_24, ht_24, H⟩ := H
      obtain rfl := ret_hid H
      go_wp2_with fail
      go_ret
      exact ⟨rfl, HBwt_15.out⟩
end Go.Proofs.Ytfbdaedoofkcbaa.GiSeenAt
