/- loop.example/g01062/spec.l4Points as a plain function, and the contract of the program's: where the plain one has an answer, the program has it. Conditions: slices read as lists. -/
import Derived.Test.YtaknldlglfnbfaaChecked
import Derived.Test.YtaknldlglfnbfaaGoM
import Derived.WalkKit
import Derived.WalkSpells
import Derived.WalkLawsBesides
import Derived.BigQuiet
import Derived.OwnWalk
import Derived.Deep.LoopGhost
import Derived.Deep.QuietTactic
import Derived.IntWalk
import Derived.Lib.QuietBelow
namespace Go.Proofs.Ytaknldlglfnbfaa.GsL4Points
set_option linter.unusedVariables false
set_option linter.unusedSimpArgs false
open Go.RowKit
open Go.Proofs.Ytaknldlglfnbfaa.Rowed Go.Proofs.Ytaknldlglfnbfaa.Turn Go.Proofs.Ytaknldlglfnbfaa.Aid Go.Proofs.Ytaknldlglfnbfaa.GoP Go.Proofs.Ytaknldlglfnbfaa.GoM

def l1 (sheet : (List ByteArray)) (k0 : Nat) (s : Int × Int) (nx1 bk1 : Int × Int → Option (Int)) : Option (Int) :=
  unp2 s fun n_3l1 k_5l1 =>
  Option.bind (idx sheet (k0 : Int)) fun (yt_11 : ByteArray) =>
  letK (decide (k_5l1 < (yt_11.size : Int))) fun (t_14 : Bool) =>
  iteK t_14
  (Option.bind (idx sheet (k0 : Int)) fun (yt_17 : ByteArray) =>
  Option.bind (idx yt_17.toList k_5l1) fun (yt_20 : UInt8) =>
  letK ((yt_20.toNat : Int)) fun (t_20 : Int) =>
  letK (t_20 == 46) fun (t_21 : Bool) =>
  iteK t_21
  (letK (IntKind.i64.wrap (n_3l1 + 1)) fun (t_23 : Int) =>
  letK (IntKind.i64.wrap (k_5l1 + 1)) fun (t_26 : Int) =>
  appK nx1 (t_23, t_26))
  (letK (IntKind.i64.wrap (k_5l1 + 1)) fun (t_26 : Int) =>
  appK nx1 (n_3l1, t_26)))
  (appK bk1 (n_3l1, k_5l1))

def e1 (nx0 : (Int) → Option (Int)) (s : Int × Int) : Option (Int) :=
  unp2 s fun n_3l1 k_5l1 =>
  appK nx0 (n_3l1)

def l0 (sheet : (List ByteArray)) (fuel : Nat) (k0 : Nat) (s : Int) (nx0 bk0 : Int → Option (Int)) : Option (Int) :=
  letK s fun n_3l0 =>
  loopK (l1 sheet k0) fuel (n_3l0, 0) (e1 nx0)

def e0  (s : Int) : Option (Int) :=
  letK s fun n_3l0 =>
  some n_3l0

def P (fuel : Nat) (sheet : (List ByteArray)) : Option (Int) :=
  cntK (l0 sheet fuel) (sheet.length) 0 (0) (e0 )

set_option maxRecDepth 100000 in
set_option maxHeartbeats 2000000 in
theorem C (fuel : Nat) (sheet : (List ByteArray)) (A0 : Option Addr) (c0 : Nat)  (w : World) (M0 : Hid (Cells w 1 A0 sheet.length (sheet.map Value.string))) (N0 : Hid (sheet.length ≤ 9223372036854775807))  {r : Int} (H : Hid (P fuel sheet = some r)) :
    Calls Try.prog 104 #[.slice A0 sheet.length c0] w (Gives (.int .i64 r) w) := by
  have HB := Lib.hid (Below.refl w.heap.size w)
  unfold P at H
  have N0o := N0.out
  go_enter Try.func104, Try.ntmps104
  go_wp2_with fail
  go_loopg [4, 3] (sheet.length) (fun m_ v4_ v3_ wr => ∃ (k0 : Nat) (n_3l0 : Int), k0 + m_ = sheet.length ∧ v4_ = .int .i64 (k0 : Int) ∧ v3_ = .int .i64 n_3l0 ∧ Hid (cntK (l0 sheet fuel) m_ k0 (n_3l0) (e0 ) = some r) ∧ Hid (Below w.heap.size w wr))
  case atStart => exact ⟨0, _, by omega, rfl, rfl, H, HB⟩
  case round =>
    obtain ⟨k0, n_3l0, hkm0, rfl, rfl, H, HBwr0⟩ := hrel
    rename World => wr0
    cases gk with
    | zero =>
      obtain rfl : k0 = sheet.length := by omega
      have hc0 : decide (((sheet.length : Nat) : Int) < ((sheet.length : Nat) : Int)) = false := by simp
      replace H := cnt_zero H
      unfold e0 at H
      replace H := let_hid H
      obtain ⟨_, rfl, H⟩ := H
      obtain rfl := ret_hid H
      go_wp2_with fail
      go_ret
      exact ⟨rfl, HBwr0.out⟩
    | succ m0 =>
      have hlt0 : k0 < sheet.length := by omega
      have hc0 : decide ((k0 : Int) < ((sheet.length : Nat) : Int)) = true := by simp; omega
      replace H := cnt_succ H
      unfold l0 at H
      replace H := let_hid H
      obtain ⟨_, rfl, H⟩ := H
      go_wp2_with fail
      go_loopg [3, 5] (fuel) (fun m_ v3_ v5_ wr => ∃ (n_3l1 : Int) (k_5l1 : Int), v3_ = .int .i64 n_3l1 ∧ v5_ = .int .i64 k_5l1 ∧ Hid (loopK (l1 sheet k0) m_ (n_3l1, k_5l1) (e1 (fun s' => cntK (l0 sheet fuel) m0 (k0 + 1) s' (e0 ))) = some r) ∧ Hid (Below w.heap.size w wr))
      case atStart => exact ⟨_, _, rfl, rfl, H, HBwr0⟩
      case round =>
        obtain ⟨n_3l1, k_5l1, rfl, rfl, H, HBwr1⟩ := hrel
        rename World => wr1
        cases gk with
        | zero => exact (loop_zero H).elim
        | succ m1 =>
          replace H := loop_succ H
          unfold l1 at H
          replace H := unp2_hid H
          replace H := idx_hid H
          obtain ⟨nt_11, yt_11, et_11, lt_11, gt_11, H⟩ := H
          obtain rfl : k0 = nt_11 := by omega
          clear et_11
          obtain ⟨ab_t_11, ao_t_11, zt_11, At_11, z_t_11, ct_11_0⟩ := strs_at M0.out lt_11
          obtain rfl := Option.some.inj (gt_11.out.symm.trans z_t_11)
          subst At_11
          have ltt_11 := cell_lt ct_11_0
          replace ct_11_0 := cell_below HBwr1.out ct_11_0
          clear z_t_11
          have b0t_11 : (0 : Int) ≤ (k0 : Int) := by omega
          have b1t_11 : (k0 : Int) < ((sheet.length : Nat) : Int) := by omega
          have b2t_11 : ((k0 : Int)).toNat = k0 := by omega
          replace H := let_hid H
          obtain ⟨t_14, ht_14, H⟩ := H
          cases t_14 with
          | false =>
            replace H := ite_f H
            replace H := app_hid H
            unfold e1 at H
            replace H := unp2_hid H
            replace H := app_hid H
            go_wp2_with fail
            go_roundg m0
            case measure => omega
            case rel => exact ⟨k0 + 1, _, by omega, by go_num, rfl, H, HBwr1⟩
          | true =>
            replace H := ite_t H
            replace H := idx_hid H
            obtain ⟨nt_17, yt_17, et_17, lt_17, gt_17, H⟩ := H
            obtain rfl : k0 = nt_17 := by omega
            clear et_17
            obtain rfl := Option.some.inj (gt_11.out.symm.trans gt_17.out)
            clear gt_17 lt_17
            replace H := idx_hid H
            obtain ⟨nt_20, yt_20, et_20, lt_20, gt_20, H⟩ := H
            subst et_20
            have nc_3 : nt_20 < yt_11.size := by have := of_decide_eq_true ht_14; omega
            have rt_20 := byte_rule lt_20 gt_20.out
            have b0t_20 : (0 : Int) ≤ (nt_20 : Int) := by omega
            have b1t_20 : (nt_20 : Int) < (yt_11.size : Int) := by have := size_list yt_11; omega
            have b2t_20 : ((nt_20 : Int)).toNat = nt_20 := by omega
            have b3t_20 : nt_20 < yt_11.size := by have := size_list yt_11; omega
            replace H := let_hid H
            obtain ⟨t_20, ht_20, H⟩ := H
            replace H := let_hid H
            obtain ⟨t_21, ht_21, H⟩ := H
            cases t_21 with
            | false =>
              replace H := ite_f H
              replace H := let_hid H
              obtain ⟨t_26, ht_26, H⟩ := H
              replace H := app_hid H
              go_wp2_with fail
              go_roundg m1
              case measure => omega
              case rel => exact ⟨_, _, rfl, rfl, H, HBwr1⟩
            | true =>
              replace H := ite_t H
              replace H := let_hid H
              obtain ⟨t_23, ht_23, H⟩ := H
              replace H := let_hid H
              obtain ⟨t_26, ht_26, H⟩ := H
              replace H := app_hid H
              go_wp2_with fail
              go_roundg m1
              case measure => omega
              case rel => exact ⟨_, _, rfl, rfl, H, HBwr1⟩
end Go.Proofs.Ytaknldlglfnbfaa.GsL4Points
