/- loop.example/g01062/impl.areRows as a plain function, and the contract of the program's: where the plain one has an answer, the program has it. Conditions: slices read as lists. -/
import Derived.Test.YtaknldlglfnbfaaChecked
import Derived.Test.YtaknldlglfnbfaaGoM
import Derived.Test.YtaknldlglfnbfaaGiWithin
import Derived.Test.YtaknldlglfnbfaaGiIsLetter
import Derived.WalkKit
import Derived.WalkSpells
import Derived.WalkLawsBesides
import Derived.BigQuiet
import Derived.OwnWalk
import Derived.Deep.LoopGhost
import Derived.Deep.QuietTactic
import Derived.IntWalk
import Derived.Lib.QuietBelow
namespace Go.Proofs.Ytaknldlglfnbfaa.GiAreRows
set_option linter.unusedVariables false
set_option linter.unusedSimpArgs false
open Go.RowKit
open Go.Proofs.Ytaknldlglfnbfaa.Rowed Go.Proofs.Ytaknldlglfnbfaa.Turn Go.Proofs.Ytaknldlglfnbfaa.Aid Go.Proofs.Ytaknldlglfnbfaa.GoP Go.Proofs.Ytaknldlglfnbfaa.GoM

def l1 (yt_20 : ByteArray) (k1 : Nat) (s : Unit) (nx1 bk1 : Unit → Option (Bool)) : Option (Bool) :=
  
  Option.bind (idx yt_20.toList (k1 : Int)) fun (yt_39 : UInt8) =>
  letK ((yt_39.toNat : Int)) fun (t_39 : Int) =>
  letK (t_39 != 46) fun (t_40 : Bool) =>
  joinK (fun (t_47 : Bool) =>
  iteK t_47
  (some false)
  (appK nx1 ())) fun jt_47 => iteK t_40 (Option.bind (idx yt_20.toList (k1 : Int)) fun (yt_44 : UInt8) =>
  letK ((yt_44.toNat : Int)) fun (t_44 : Int) =>
  Option.bind (Go.Proofs.Ytaknldlglfnbfaa.GiIsLetter.P t_44) fun (t_45 : Bool) =>
  letK (!t_45) fun (t_46 : Bool) =>
  appK jt_47 t_46) (appK jt_47 false)

def e1 (nx0 : (Unit) → Option (Bool)) (s : Unit) : Option (Bool) :=
  
  appK nx0 ()

def l0 (rows : (List ByteArray)) (k0 : Nat) (s : Unit) (nx0 bk0 : Unit → Option (Bool)) : Option (Bool) :=
  
  Option.bind (idx rows (k0 : Int)) fun (yt_20 : ByteArray) =>
  Option.bind (idx rows 0) fun (yt_26 : ByteArray) =>
  letK ((yt_20.size : Int) != (yt_26.size : Int)) fun (t_29 : Bool) =>
  iteK t_29
  (some false)
  (guardK (yt_20.size ≤ 9223372036854775807) <|
  cntK (l1 yt_20) (yt_20.size) 0 () (e1 nx0))

def e0  (s : Unit) : Option (Bool) :=
  
  some true

def P (rows : (List ByteArray)) (most : Int) : Option (Bool) :=
  Option.bind (Go.Proofs.Ytaknldlglfnbfaa.GiWithin.P (rows.length : Int) 1 most) fun (t_4 : Bool) =>
  letK (!t_4) fun (t_5 : Bool) =>
  joinK (fun (t_14 : Bool) =>
  iteK t_14
  (some false)
  (cntK (l0 rows) (rows.length) 0 () (e0 ))) fun jt_14 => iteK t_5 (appK jt_14 true) (Option.bind (idx rows 0) fun (yt_8 : ByteArray) =>
  Option.bind (Go.Proofs.Ytaknldlglfnbfaa.GiWithin.P (yt_8.size : Int) 1 most) fun (t_12 : Bool) =>
  letK (!t_12) fun (t_13 : Bool) =>
  appK jt_14 t_13)

set_option maxRecDepth 100000 in
set_option maxHeartbeats 2000000 in
theorem C (rows : (List ByteArray)) (most : Int) (A0 : Option Addr) (c0 : Nat)  (w : World) (M0 : Hid (Cells w 1 A0 rows.length (rows.map Value.string))) (N0 : Hid (rows.length ≤ 9223372036854775807))  {r : Bool} (H : Hid (P rows most = some r)) :
    Calls Try.prog 123 #[.slice A0 rows.length c0, .int .i64 most] w (Gives (.bool r) w) := by
  have HB := Lib.hid (Below.refl w.heap.size w)
  unfold P at H
  have N0o := N0.out
  go_enter Try.func123, Try.ntmps123
  replace H := bind_hid H
  obtain ⟨t_4, qt_4, H⟩ := H
  go_wp2_with fail
  go_at_call 68
  refine (Go.Proofs.Ytaknldlglfnbfaa.GiWithin.C ((rows.length : Int)) (1) (most)  _   qt_4).mono ?_
  rintro e_t_4 wt_4 ⟨rfl, bt_4⟩
  have HBwt_4 := Lib.hid (Below.step HB.out bt_4)
  clear bt_4
  cases t_4 with
  | false =>
    replace H := let_hid H
    obtain ⟨t_5, ht_5, H⟩ := H
    obtain rfl : t_5 = true := ht_5.symm
    replace H := join_hid H
    replace H := ite_t H
    replace H := app_hid H
    replace H := ite_t H
    obtain rfl := ret_hid H
    go_wp2_with fail
    go_ret
    exact ⟨rfl, HBwt_4.out⟩
  | true =>
    replace H := let_hid H
    obtain ⟨t_5, ht_5, H⟩ := H
    obtain rfl : t_5 = false := ht_5.symm
    replace H := join_hid H
    replace H := ite_f H
    replace H := idx_hid H
    obtain ⟨nt_8, yt_8, et_8, lt_8, gt_8, H⟩ := H
    obtain rfl : 0 = nt_8 := by omega
    clear et_8
    obtain ⟨ab_t_8, ao_t_8, zt_8, At_8, z_t_8, ct_8_0⟩ := strs_at M0.out lt_8
    obtain rfl := Option.some.inj (gt_8.out.symm.trans z_t_8)
    subst At_8
    have ltt_8 := cell_lt ct_8_0
    replace ct_8_0 := cell_below HBwt_4.out ct_8_0
    clear z_t_8
    have b1t_8 : (0 : Int) < ((rows.length : Nat) : Int) := by omega
    have b3t_8 : 0 < rows.length := by omega
    try simp only [Nat.zero_mul, Nat.add_zero, Nat.zero_add, Nat.reduceMul] at ct_8_0
    replace H := bind_hid H
    obtain ⟨t_12, qt_12, H⟩ := H
    go_wp2_with fail
    go_at_call 68
    refine (Go.Proofs.Ytaknldlglfnbfaa.GiWithin.C ((yt_8.size : Int)) (1) (most)  _   qt_12).mono ?_
    rintro e_t_12 wt_12 ⟨rfl, bt_12⟩
    have HBwt_12 := Lib.hid (Below.step HBwt_4.out bt_12)
    replace ct_8_0 := cell_below bt_12 ct_8_0
    clear bt_12
    cases t_12 with
    | false =>
      replace H := let_hid H
      obtain ⟨t_13, ht_13, H⟩ := H
      obtain rfl : t_13 = true := ht_13.symm
      replace H := app_hid H
      replace H := ite_t H
      obtain rfl := ret_hid H
      go_wp2_with fail
      go_ret
      exact ⟨rfl, HBwt_12.out⟩
    | true =>
      replace H := let_hid H
      obtain ⟨t_13, ht_13, H⟩ := H
      obtain rfl : t_13 = false := ht_13.symm
      replace H := app_hid H
      replace H := ite_f H
      go_wp2_with fail
      go_loopg [24] (rows.length) (fun m_ v24_ wr => ∃ (k0 : Nat) , k0 + m_ = rows.length ∧ v24_ = .int .i64 (k0 : Int) ∧ Hid (cntK (l0 rows) m_ k0 () (e0 ) = some r) ∧ Hid (Below w.heap.size w wr))
      case atStart => exact ⟨0, by omega, rfl, H, HBwt_12⟩
      case round =>
        obtain ⟨k0, hkm0, rfl, H, HBwr0⟩ := hrel
        rename World => wr0
        cases gk with
        | zero =>
          obtain rfl : k0 = rows.length := by omega
          have hc0 : decide (((rows.length : Nat) : Int) < ((rows.length : Nat) : Int)) = false := by simp
          replace H := cnt_zero H
          unfold e0 at H
          obtain rfl := ret_hid H
          go_wp2_with fail
          go_ret
          exact ⟨rfl, HBwr0.out⟩
        | succ m0 =>
          have hlt0 : k0 < rows.length := by omega
          have hc0 : decide ((k0 : Int) < ((rows.length : Nat) : Int)) = true := by simp; omega
          replace H := cnt_succ H
          unfold l0 at H
          replace H := idx_hid H
          obtain ⟨nt_20, yt_20, et_20, lt_20, gt_20, H⟩ := H
          obtain rfl : k0 = nt_20 := by omega
          clear et_20
          obtain ⟨ab_t_20, ao_t_20, zt_20, At_20, z_t_20, ct_20_0⟩ := strs_at M0.out lt_20
          obtain rfl := Option.some.inj (gt_20.out.symm.trans z_t_20)
          simp only [Option.some.injEq, Addr.mk.injEq] at At_20
          obtain ⟨rfl, rfl, _⟩ := At_20
          have ltt_20 := cell_lt ct_20_0
          replace ct_20_0 := cell_below HBwr0.out ct_20_0
          clear z_t_20
          have b0t_20 : (0 : Int) ≤ (k0 : Int) := by omega
          have b1t_20 : (k0 : Int) < ((rows.length : Nat) : Int) := by omega
          have b2t_20 : ((k0 : Int)).toNat = k0 := by omega
          replace H := idx_hid H
          obtain ⟨nt_26, yt_26, et_26, lt_26, gt_26, H⟩ := H
          obtain rfl : 0 = nt_26 := by omega
          clear et_26
          obtain ⟨ab_t_26, ao_t_26, zt_26, At_26, z_t_26, ct_26_0⟩ := strs_at M0.out lt_26
          obtain rfl := Option.some.inj (gt_26.out.symm.trans z_t_26)
          simp only [Option.some.injEq, Addr.mk.injEq] at At_26
          obtain ⟨rfl, rfl, _⟩ := At_26
          have ltt_26 := cell_lt ct_26_0
          replace ct_26_0 := cell_below HBwr0.out ct_26_0
          clear z_t_26
          have b1t_26 : (0 : Int) < ((rows.length : Nat) : Int) := by omega
          have b3t_26 : 0 < rows.length := by omega
          try simp only [Nat.zero_mul, Nat.add_zero, Nat.zero_add, Nat.reduceMul] at ct_26_0
          replace H := let_hid H
          obtain ⟨t_29, ht_29, H⟩ := H
          cases t_29 with
          | false =>
            have Hht_29 : Hid (yt_20.size = yt_26.size) := Lib.hid (by have := bne_eq_false_iff_eq.1 ht_29; omega)
            have nht_29 : (yt_20.size == yt_26.size) = true := beq_iff_eq.2 Hht_29.out
            replace H := ite_f H
            replace H := guard_hid H
            obtain ⟨hg1, H⟩ := H
            go_wp2_with fail
            go_loopg [37] (yt_20.size) (fun m_ v37_ wr => ∃ (k1 : Nat) , k1 + m_ = yt_20.size ∧ v37_ = .int .i64 (k1 : Int) ∧ Hid (cntK (l1 yt_20) m_ k1 () (e1 (fun s' => cntK (l0 rows) m0 (k0 + 1) s' (e0 ))) = some r) ∧ Hid (Below w.heap.size w wr))
            case atStart => exact ⟨0, by omega, rfl, H, HBwr0⟩
            case round =>
              obtain ⟨k1, hkm1, rfl, H, HBwr1⟩ := hrel
              rename World => wr1
              cases gk with
              | zero =>
                obtain rfl : k1 = yt_20.size := by omega
                have hc1 : decide (((yt_20.size : Nat) : Int) < ((yt_20.size : Nat) : Int)) = false := by simp
                replace H := cnt_zero H
                unfold e1 at H
                replace H := app_hid H
                go_wp2_with fail
                go_roundg m0
                case measure => omega
                case rel => exact ⟨k0 + 1, by omega, by go_num, H, HBwr1⟩
              | succ m1 =>
                have hlt1 : k1 < yt_20.size := by omega
                have hc1 : decide ((k1 : Int) < ((yt_20.size : Nat) : Int)) = true := by simp; omega
                replace H := cnt_succ H
                unfold l1 at H
                replace H := idx_hid H
                obtain ⟨nt_39, yt_39, et_39, lt_39, gt_39, H⟩ := H
                obtain rfl : k1 = nt_39 := by omega
                clear et_39
                have rt_39 := byte_rule lt_39 gt_39.out
                have b0t_39 : (0 : Int) ≤ (k1 : Int) := by omega
                have b1t_39 : (k1 : Int) < (yt_20.size : Int) := by have := size_list yt_20; omega
                have b2t_39 : ((k1 : Int)).toNat = k1 := by omega
                have b3t_39 : k1 < yt_20.size := by have := size_list yt_20; omega
                replace H := let_hid H
                obtain ⟨t_39, ht_39, H⟩ := H
                replace H := let_hid H
                obtain ⟨t_40, ht_40, H⟩ := H
                replace H := join_hid H
                cases t_40 with
                | false =>
                  replace H := ite_f H
                  replace H := app_hid H
                  replace H := ite_f H
                  replace H := app_hid H
                  go_wp2_with fail
                  go_roundg m1
                  case measure => omega
                  case rel => exact ⟨k1 + 1, by omega, by go_num, H, HBwr1⟩
                | true =>
                  replace H := ite_t H
                  replace H := idx_hid H
                  obtain ⟨nt_44, yt_44, et_44, lt_44, gt_44, H⟩ := H
                  obtain rfl : k1 = nt_44 := by omega
                  clear et_44
                  obtain rfl := Option.some.inj (gt_39.out.symm.trans gt_44.out)
                  clear gt_44 lt_44
                  replace H := let_hid H
                  obtain ⟨t_44, ht_44, H⟩ := H
                  obtain rfl := ht_39.symm.trans ht_44
                  replace H := bind_hid H
                  obtain ⟨t_45, qt_45, H⟩ := H
                  go_wp2_with fail
                  go_at_call 152
                  refine (Go.Proofs.Ytaknldlglfnbfaa.GiIsLetter.C (t_39)  _   qt_45).mono ?_
                  rintro e_t_45 wt_45 ⟨rfl, bt_45⟩
                  have HBwt_45 := Lib.hid (Below.step HBwr1.out bt_45)
                  clear bt_45
                  cases t_45 with
                  | false =>
                    replace H := let_hid H
                    obtain ⟨t_46, ht_46, H⟩ := H
                    obtain rfl : t_46 = true := ht_46.symm
                    replace H := app_hid H
                    replace H := ite_t H
                    obtain rfl := ret_hid H
                    go_wp2_with fail
                    go_ret
                    exact ⟨rfl, HBwt_45.out⟩
                  | true =>
                    replace H := let_hid H
                    obtain ⟨t_46, ht_46, H⟩ := H
                    obtain rfl : t_46 = false := ht_46.symm
                    replace H := app_hid H
                    replace H := ite_f H
                    replace H := app_hid H
                    go_wp2_with fail
                    go_roundg m1
                    case measure => omega
                    case rel => exact ⟨k1 + 1, by omega, by go_num, H, HBwt_45⟩
          | true =>
            have nht_29 : ¬ (yt_20.size = yt_26.size) := by have := bne_iff_ne.1 ht_29; omega
            replace H := ite_t H
            obtain rfl := ret_hid H
            go_wp2_with fail
            go_ret
            exact ⟨rfl, HBwr0.out⟩
end Go.Proofs.Ytaknldlglfnbfaa.GiAreRows
