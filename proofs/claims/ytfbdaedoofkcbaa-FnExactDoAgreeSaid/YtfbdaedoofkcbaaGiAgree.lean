/- loop.example/g01062/impl.agree as a plain function, and the contract of the program's: where the plain one has an answer, the program has it. Conditions: slices read as lists. -/
import Derived.Test.YtfbdaedoofkcbaaChecked
import Derived.Test.YtfbdaedoofkcbaaGoM
import Derived.Test.YtfbdaedoofkcbaaGiSeenAt
import Derived.WalkKit
import Derived.WalkSpells
import Derived.WalkLawsBesides
import Derived.BigQuiet
import Derived.OwnWalk
import Derived.Deep.LoopGhost
import Derived.Deep.QuietTactic
import Derived.IntWalk
import Derived.Lib.QuietBelow
namespace Go.Proofs.Ytfbdaedoofkcbaa.GiAgree
set_option linter.unusedVariables false
set_option linter.unusedSimpArgs false
open Go.RowKit
open Go.Proofs.Ytfbdaedoofkcbaa.Rowed Go.Proofs.Ytfbdaedoofkcbaa.Turn Go.Proofs.Ytfbdaedoofkcbaa.Aid Go.Proofs.Ytfbdaedoofkcbaa.GoP Go.Proofs.Ytfbdaedoofkcbaa.GoM

def l1 (rows : (List ByteArray)) (down : Int) (right : Int) (k0 : Nat) (yt_6 : ByteArray) (k1 : Nat) (s : Unit) (nx1 bk1 : Unit → Option (Bool)) : Option (Bool) :=
  
  letK (IntKind.i64.wrap (down + (k0 : Int))) fun (t_19 : Int) =>
  letK (IntKind.i64.wrap (right + (k1 : Int))) fun (t_22 : Int) =>
  Option.bind (Go.Proofs.Ytfbdaedoofkcbaa.GiSeenAt.P rows t_19 t_22) fun (t_23 : Int) =>
  letK (t_23 != 46) fun (t_26 : Bool) =>
  joinK (fun (t_32 : Bool) =>
  joinK (fun (t_39 : Bool) =>
  iteK t_39
  (some false)
  (appK nx1 ())) fun jt_39 => iteK t_32 (Option.bind (idx yt_6.toList (k1 : Int)) fun (yt_37 : UInt8) =>
  letK ((yt_37.toNat : Int)) fun (t_37 : Int) =>
  letK (t_23 != t_37) fun (t_38 : Bool) =>
  appK jt_39 t_38) (appK jt_39 false)) fun jt_32 => iteK t_26 (Option.bind (idx yt_6.toList (k1 : Int)) fun (yt_30 : UInt8) =>
  letK ((yt_30.toNat : Int)) fun (t_30 : Int) =>
  letK (t_30 != 46) fun (t_31 : Bool) =>
  appK jt_32 t_31) (appK jt_32 false)

def e1 (nx0 : (Unit) → Option (Bool)) (s : Unit) : Option (Bool) :=
  
  appK nx0 ()

def l0 (rows : (List ByteArray)) (others : (List ByteArray)) (down : Int) (right : Int) (k0 : Nat) (s : Unit) (nx0 bk0 : Unit → Option (Bool)) : Option (Bool) :=
  
  Option.bind (idx others (k0 : Int)) fun (yt_6 : ByteArray) =>
  guardK (yt_6.size ≤ 9223372036854775807) <|
  cntK (l1 rows down right k0 yt_6) (yt_6.size) 0 () (e1 nx0)

def e0  (s : Unit) : Option (Bool) :=
  
  some true

def P (rows : (List ByteArray)) (others : (List ByteArray)) (down : Int) (right : Int) : Option (Bool) :=
  cntK (l0 rows others down right) (others.length) 0 () (e0 )

set_option maxRecDepth 100000 in
set_option maxHeartbeats 2000000 in
theorem C (rows : (List ByteArray)) (others : (List ByteArray)) (down : Int) (right : Int) (A0 : Option Addr) (c0 : Nat) (A1 : Option Addr) (c1 : Nat)  (w : World) (M0 : Hid (Cells w 1 A0 rows.length (rows.map Value.string))) (N0 : Hid (rows.length ≤ 9223372036854775807)) (M1 : Hid (Cells w 1 A1 others.length (others.map Value.string))) (N1 : Hid (others.length ≤ 9223372036854775807))  {r : Bool} (H : Hid (P rows others down right = some r)) :
    Calls Try.prog 81 #[.slice A0 rows.length c0, .slice A1 others.length c1, .int .i64 down, .int .i64 right] w (Gives (.bool r) w) := by
  have HB := Lib.hid (Below.refl w.heap.size w)
  unfold P at H
  have N0o := N0.out
  have N1o := N1.out
  go_enter Try.func81, Try.ntmps81
  go_wp2_with fail
  go_loopg [15] (others.length) (fun m_ v15_ wr => ∃ (k0 : Nat) , k0 + m_ = others.length ∧ v15_ = .int .i64 (k0 : Int) ∧ Hid (cntK (l0 rows others down right) m_ k0 () (e0 ) = some r) ∧ Hid (Below w.heap.size w wr))
  case atStart => exact ⟨0, by omega, rfl, H, HB⟩
  case round =>
    obtain ⟨k0, hkm0, rfl, H, HBwr0⟩ := hrel
    rename World => wr0
    cases gk with
    | zero =>
      obtain rfl : k0 = others.length := by omega
      have hc0 : decide (((others.length : Nat) : Int) < ((others.length : Nat) : Int)) = false := by simp
      replace H := cnt_zero H
      unfold e0 at H
      obtain rfl := ret_hid H
      go_wp2_with fail
      go_ret
      exact ⟨rfl, HBwr0.out⟩
    | succ m0 =>
      have hlt0 : k0 < others.length := by omega
      have hc0 : decide ((k0 : Int) < ((others.length : Nat) : Int)) = true := by simp; omega
      replace H := cnt_succ H
      unfold l0 at H
      replace H := idx_hid H
      obtain ⟨nt_6, yt_6, et_6, lt_6, gt_6, H⟩ := H
      obtain rfl : k0 = nt_6 := by omega
      clear et_6
      obtain ⟨ab_t_6, ao_t_6, zt_6, At_6, z_t_6, ct_6_0⟩ := strs_at M1.out lt_6
      obtain rfl := Option.some.inj (gt_6.out.symm.trans z_t_6)
      subst At_6
      have ltt_6 := cell_lt ct_6_0
      replace ct_6_0 := cell_below HBwr0.out ct_6_0
      clear z_t_6
      have b0t_6 : (0 : Int) ≤ (k0 : Int) := by omega
      have b1t_6 : (k0 : Int) < ((others.length : Nat) : Int) := by omega
      have b2t_6 : ((k0 : Int)).toNat = k0 := by omega
      replace H := guard_hid H
      obtain ⟨hg1, H⟩ := H
      go_wp2_with fail
      go_loopg [22] (yt_6.size) (fun m_ v22_ wr => ∃ (k1 : Nat) , k1 + m_ = yt_6.size ∧ v22_ = .int .i64 (k1 : Int) ∧ Hid (cntK (l1 rows down right k0 yt_6) m_ k1 () (e1 (fun s' => cntK (l0 rows others down right) m0 (k0 + 1) s' (e0 ))) = some r) ∧ Hid (Below w.heap.size w wr))
      case atStart => exact ⟨0, by omega, rfl, H, HBwr0⟩
      case round =>
        obtain ⟨k1, hkm1, rfl, H, HBwr1⟩ := hrel
        rename World => wr1
        cases gk with
        | zero =>
          obtain rfl : k1 = yt_6.size := by omega
          have hc1 : decide (((yt_6.size : Nat) : Int) < ((yt_6.size : Nat) : Int)) = false := by simp
          replace H := cnt_zero H
          unfold e1 at H
          replace H := app_hid H
          go_wp2_with fail
          go_roundg m0
          case measure => omega
          case rel => exact ⟨k0 + 1, by omega, by go_num, H, HBwr1⟩
        | succ m1 =>
          have hlt1 : k1 < yt_6.size := by omega
          have hc1 : decide ((k1 : Int) < ((yt_6.size : Nat) : Int)) = true := by simp; omega
          replace H := cnt_succ H
          unfold l1 at H
          replace H := let_hid H
          obtain ⟨t_19, ht_19, H⟩ := H
          replace H := let_hid H
          obtain ⟨t_22, ht_22, H⟩ := H
          replace H := bind_hid H
          obtain ⟨t_23, qt_23, H⟩ := H
          go_wp2_with fail
          go_at_call 96
          refine (Go.Proofs.Ytfbdaedoofkcbaa.GiSeenAt.C (rows) (t_19) (t_22) A0 c0 _ (Lib.hid (Cells.below M0.out HBwr1.out)) N0 qt_23).mono ?_
          rintro e_t_23 wt_23 ⟨rfl, bt_23⟩
          have HBwt_23 := Lib.hid (Below.step HBwr1.out bt_23)
          clear bt_23
          replace H := let_hid H
          obtain ⟨t_26, ht_26, H⟩ := H
          replace H := join_hid H
          cases t_26 with
          | false =>
            replace H := ite_f H
            replace H := app_hid H
            replace H := join_hid H
            replace H := ite_f H
            replace H := app_hid H
            replace H := ite_f H
            replace H := app_hid H
            go_wp2_with fail
            go_roundg m1
            case measure => omega
            case rel => exact ⟨k1 + 1, by omega, by go_num, H, HBwt_23⟩
          | true =>
            replace H := ite_t H
            replace H := idx_hid H
            obtain ⟨nt_30, yt_30, et_30, lt_30, gt_30, H⟩ := H
            obtain rfl : k1 = nt_30 := by omega
            clear et_30
            have rt_30 := byte_rule lt_30 gt_30.out
            have b0t_30 : (0 : Int) ≤ (k1 : Int) := by omega
            have b1t_30 : (k1 : Int) < (yt_6.size : Int) := by have := size_list yt_6; omega
            have b2t_30 : ((k1 : Int)).toNat = k1 := by omega
            have b3t_30 : k1 < yt_6.size := by have := size_list yt_6; omega
            replace H := let_hid H
            obtain ⟨t_30, ht_30, H⟩ := H
            replace H := let_hid H
            obtain ⟨t_31, ht_31, H⟩ := H
            replace H := app_hid H
            replace H := join_hid H
            cases t_31 with
            | false =>
              replace H := ite_f H
              replace H := app_hid H
              replace H := ite_f H
              replace H := app_hid H
              go_wp2_with fail
              go_roundg m1
              case measure => omega
              case rel => exact ⟨k1 + 1, by omega, by go_num, H, HBwt_23⟩
            | true =>
              replace H := ite_t H
              replace H := idx_hid H
              obtain ⟨nt_37, yt_37, et_37, lt_37, gt_37, H⟩ := H
              obtain rfl : k1 = nt_37 := by omega
              clear et_37
              obtain rfl := Option.some.inj (gt_30.out.symm.trans gt_37.out)
              clear gt_37 lt_37
              replace H := let_hid H
              obtain ⟨t_37, ht_37, H⟩ := H
              obtain rfl := ht_30.symm.trans ht_37
              replace H := let_hid H
              obtain ⟨t_38, ht_38, H⟩ := H
              replace H := app_hid H
              cases t_38 with
              | false =>
                replace H := ite_f H
                replace H := app_hid H
                go_wp2_with fail
                go_roundg m1
                case measure => omega
                case rel => exact ⟨k1 + 1, by omega, by go_num, H, HBwt_23⟩
              | true =>
                replace H := ite_t H
                obtain rfl := ret_hid H
                go_wp2_with fail
                go_ret
                exact ⟨rfl, HBwt_23.out⟩
end Go.Proofs.Ytfbdaedoofkcbaa.GiAgree
