/- loop.example/g01062/spec.l4Rows as a plain function, and the contract of the program's: where the plain one has an answer, the program has it. Conditions: slices read as lists. -/
import Derived.Test.YtaknldlglfnbfaaChecked
import Derived.Test.YtaknldlglfnbfaaGoM
import Derived.Test.YtaknldlglfnbfaaGsL1In
import Derived.WalkKit
import Derived.WalkSpells
import Derived.WalkLawsBesides
import Derived.BigQuiet
import Derived.OwnWalk
import Derived.Deep.LoopGhost
import Derived.Deep.QuietTactic
import Derived.IntWalk
import Derived.Lib.QuietBelow
namespace Go.Proofs.Ytaknldlglfnbfaa.GsL4Rows
set_option linter.unusedVariables false
set_option linter.unusedSimpArgs false
open Go.RowKit
open Go.Proofs.Ytaknldlglfnbfaa.Rowed Go.Proofs.Ytaknldlglfnbfaa.Turn Go.Proofs.Ytaknldlglfnbfaa.Aid Go.Proofs.Ytaknldlglfnbfaa.GoP Go.Proofs.Ytaknldlglfnbfaa.GoM

def l1 (rows : (List ByteArray)) (k0 : Nat) (s : Int) (nx1 bk1 : Int → Option (Bool)) : Option (Bool) :=
  letK s fun k_6l1 =>
  Option.bind (idx rows (k0 : Int)) fun (yt_37 : ByteArray) =>
  letK (decide (k_6l1 < (yt_37.size : Int))) fun (t_40 : Bool) =>
  iteK t_40
  (Option.bind (idx rows (k0 : Int)) fun (yt_43 : ByteArray) =>
  Option.bind (idx yt_43.toList k_6l1) fun (yt_46 : UInt8) =>
  letK ((yt_46.toNat : Int)) fun (t_46 : Int) =>
  letK (t_46 != 46) fun (t_49 : Bool) =>
  joinK (fun (t_57 : Bool) =>
  iteK t_57
  (some false)
  (letK (IntKind.i64.wrap (k_6l1 + 1)) fun (t_60 : Int) =>
  appK nx1 (t_60))) fun jt_57 => iteK t_49 (letK (decide (t_46 < 97)) fun (t_52 : Bool) =>
  joinK (fun (t_56 : Bool) =>
  appK jt_57 t_56) fun jt_56 => iteK t_52 (appK jt_56 true) (letK (decide (122 < t_46)) fun (t_55 : Bool) =>
  appK jt_56 t_55)) (appK jt_57 false))
  (appK bk1 (k_6l1))

def e1 (nx0 : (Unit) → Option (Bool)) (s : Int) : Option (Bool) :=
  letK s fun k_6l1 =>
  appK nx0 ()

def l0 (rows : (List ByteArray)) (most : Int) (fuel : Nat) (k0 : Nat) (s : Unit) (nx0 bk0 : Unit → Option (Bool)) : Option (Bool) :=
  
  Option.bind (idx rows (k0 : Int)) fun (yt_14 : ByteArray) =>
  Option.bind (idx rows 0) fun (yt_18 : ByteArray) =>
  letK ((yt_14.size : Int) != (yt_18.size : Int)) fun (t_21 : Bool) =>
  joinK (fun (t_31 : Bool) =>
  iteK t_31
  (some false)
  (loopK (l1 rows k0) fuel (0) (e1 nx0))) fun jt_31 => iteK t_21 (appK jt_31 true) (Option.bind (idx rows (k0 : Int)) fun (yt_25 : ByteArray) =>
  Option.bind (Go.Proofs.Ytaknldlglfnbfaa.GsL1In.P (yt_25.size : Int) 1 most) fun (t_29 : Bool) =>
  letK (!t_29) fun (t_30 : Bool) =>
  appK jt_31 t_30)

def e0  (s : Unit) : Option (Bool) :=
  
  some true

def P (fuel : Nat) (rows : (List ByteArray)) (most : Int) : Option (Bool) :=
  Option.bind (Go.Proofs.Ytaknldlglfnbfaa.GsL1In.P (rows.length : Int) 1 most) fun (t_4 : Bool) =>
  letK (!t_4) fun (t_5 : Bool) =>
  iteK t_5
  (some false)
  (cntK (l0 rows most fuel) (rows.length) 0 () (e0 ))

set_option maxRecDepth 100000 in
set_option maxHeartbeats 2000000 in
theorem C (fuel : Nat) (rows : (List ByteArray)) (most : Int) (A0 : Option Addr) (c0 : Nat)  (w : World) (M0 : Hid (Cells w 1 A0 rows.length (rows.map Value.string))) (N0 : Hid (rows.length ≤ 9223372036854775807))  {r : Bool} (H : Hid (P fuel rows most = some r)) :
    Calls Try.prog 122 #[.slice A0 rows.length c0, .int .i64 most] w (Gives (.bool r) w) := by
  have HB := Lib.hid (Below.refl w.heap.size w)
  unfold P at H
  have N0o := N0.out
  go_enter Try.func122, Try.ntmps122
  replace H := bind_hid H
  obtain ⟨t_4, qt_4, H⟩ := H
  go_wp2_with fail
  go_at_call 64
  refine (Go.Proofs.Ytaknldlglfnbfaa.GsL1In.C ((rows.length : Int)) (1) (most)  _   qt_4).mono ?_
  rintro e_t_4 wt_4 ⟨rfl, bt_4⟩
  have HBwt_4 := Lib.hid (Below.step HB.out bt_4)
  clear bt_4
  cases t_4 with
  | false =>
    replace H := let_hid H
    obtain ⟨t_5, ht_5, H⟩ := H
    obtain rfl : t_5 = true := ht_5.symm
    replace H := ite_t H
    obtain rfl := ret_hid H
    go_wp2_with fail
    go_ret
    exact ⟨rfl, HBwt_4.out⟩
  | true =>
    replace H := let_hid H
    obtain ⟨t_5, ht_5, H⟩ := H
    obtain rfl : t_5 = false := ht_5.symm
    replace H := ite_f H
    go_wp2_with fail
    go_loopg [5] (rows.length) (fun m_ v5_ wr => ∃ (k0 : Nat) , k0 + m_ = rows.length ∧ v5_ = .int .i64 (k0 : Int) ∧ Hid (cntK (l0 rows most fuel) m_ k0 () (e0 ) = some r) ∧ Hid (Below w.heap.size w wr))
    case atStart => exact ⟨0, by omega, rfl, H, HBwt_4⟩
    case round =>
      obtain ⟨k0, hkm0, rfl, H, HBwr0⟩ := hrel
      rename World => wr0
      cases gk with
      | zero =>
        obtain rfl : k0 = rows.length := by omega
        have hc0 : decide (((rows.length : Nat) : Int) < ((rows.length : Nat) : Int)) = false := by simp
        replace H := cnt_zero H
        unfold e0 at H
        obtain rfl := ret_hid H
        go_wp2_with fail
        go_ret
        exact ⟨rfl, HBwr0.out⟩
      | succ m0 =>
        have hlt0 : k0 < rows.length := by omega
        have hc0 : decide ((k0 : Int) < ((rows.length : Nat) : Int)) = true := by simp; omega
        replace H := cnt_succ H
        unfold l0 at H
        go_wp2_with fail
        replace H := idx_hid H
        obtain ⟨nt_14, yt_14, et_14, lt_14, gt_14, H⟩ := H
        obtain rfl : k0 = nt_14 := by omega
        clear et_14
        obtain ⟨ab_t_14, ao_t_14, zt_14, At_14, z_t_14, ct_14_0⟩ := strs_at M0.out lt_14
        obtain rfl := Option.some.inj (gt_14.out.symm.trans z_t_14)
        subst At_14
        have ltt_14 := cell_lt ct_14_0
        replace ct_14_0 := cell_below HBwr0.out ct_14_0
        clear z_t_14
        have b0t_14 : (0 : Int) ≤ (k0 : Int) := by omega
        have b1t_14 : (k0 : Int) < ((rows.length : Nat) : Int) := by omega
        have b2t_14 : ((k0 : Int)).toNat = k0 := by omega
        have Hct_14_0 := Lib.hid ct_14_0
        replace ct_14_0 := cell_regrown ct_14_0
        replace H := idx_hid H
        obtain ⟨nt_18, yt_18, et_18, lt_18, gt_18, H⟩ := H
        obtain rfl : 0 = nt_18 := by omega
        clear et_18
        obtain ⟨ab_t_18, ao_t_18, zt_18, At_18, z_t_18, ct_18_0⟩ := strs_at M0.out lt_18
        obtain rfl := Option.some.inj (gt_18.out.symm.trans z_t_18)
        simp only [Option.some.injEq, Addr.mk.injEq] at At_18
        obtain ⟨rfl, rfl, _⟩ := At_18
        have ltt_18 := cell_lt ct_18_0
        replace ct_18_0 := cell_below HBwr0.out ct_18_0
        clear z_t_18
        have b1t_18 : (0 : Int) < ((rows.length : Nat) : Int) := by omega
        have b3t_18 : 0 < rows.length := by omega
        try simp only [Nat.zero_mul, Nat.add_zero, Nat.zero_add, Nat.reduceMul] at ct_18_0
        have Hct_18_0 := Lib.hid ct_18_0
        replace ct_18_0 := cell_regrown ct_18_0
        replace H := let_hid H
        obtain ⟨t_21, ht_21, H⟩ := H
        replace H := join_hid H
        cases t_21 with
        | false =>
          have Hht_21 : Hid (yt_14.size = yt_18.size) := Lib.hid (by have := bne_eq_false_iff_eq.1 ht_21; omega)
          have nht_21 : (yt_14.size == yt_18.size) = true := beq_iff_eq.2 Hht_21.out
          replace H := ite_f H
          replace H := idx_hid H
          obtain ⟨nt_25, yt_25, et_25, lt_25, gt_25, H⟩ := H
          obtain rfl : k0 = nt_25 := by omega
          clear et_25
          obtain rfl := Option.some.inj (gt_14.out.symm.trans gt_25.out)
          clear gt_25 lt_25
          replace H := bind_hid H
          obtain ⟨t_29, qt_29, H⟩ := H
          have nt_29 : ∀ d os, Calls Try.prog 64 #[.int .i64 (yt_14.size : Int), .int .i64 1, .int .i64 most] (Go.Sort.grow (redrawn wr0 d) os) fun e w'' => e = .returned (.bool t_29) ∧ ∃ p : Regrown, w'' = Go.Sort.grow (redrawn wr0 p.d) p.os := fun d os => Calls.regrown_of (Go.Proofs.Ytaknldlglfnbfaa.GsL1In.C ((yt_14.size : Int)) (1) (most)  _   qt_29)
          cases t_29 with
          | false =>
            replace H := let_hid H
            obtain ⟨t_30, ht_30, H⟩ := H
            obtain rfl : t_30 = true := ht_30.symm
            replace H := app_hid H
            refine wp_region_quiet_below (by kernel_rfl) (by kernel_rfl) ?_
            repeat (go_big_quiet_step (first | (go_at_call 64; exact nt_29 _ _)))
            refine wpQuiet_nil ?_
            intro Y6 hY6
            replace hY6 := below_class hY6
            clear nt_29
            replace ct_14_0 := Hct_14_0.out
            clear Hct_14_0
            replace ct_18_0 := Hct_18_0.out
            clear Hct_18_0
            have HBY6 := Lib.hid (Below.step HBwr0.out hY6)
            replace ct_14_0 := cell_below hY6 ct_14_0
            replace ct_18_0 := cell_below hY6 ct_18_0
            clear hY6
            replace H := ite_t H
            obtain rfl := ret_hid H
            go_wp2_with fail
            go_ret
            exact ⟨rfl, HBY6.out⟩
          | true =>
            replace H := let_hid H
            obtain ⟨t_30, ht_30, H⟩ := H
            obtain rfl : t_30 = false := ht_30.symm
            replace H := app_hid H
            refine wp_region_quiet_below (by kernel_rfl) (by kernel_rfl) ?_
            repeat (go_big_quiet_step (first | (go_at_call 64; exact nt_29 _ _)))
            refine wpQuiet_nil ?_
            intro Y6 hY6
            replace hY6 := below_class hY6
            clear nt_29
            replace ct_14_0 := Hct_14_0.out
            clear Hct_14_0
            replace ct_18_0 := Hct_18_0.out
            clear Hct_18_0
            have HBY6 := Lib.hid (Below.step HBwr0.out hY6)
            replace ct_14_0 := cell_below hY6 ct_14_0
            replace ct_18_0 := cell_below hY6 ct_18_0
            clear hY6
            replace H := ite_f H
            go_wp2_with fail
            go_loopg [6] (fuel) (fun m_ v6_ wr => ∃ (k_6l1 : Int), v6_ = .int .i64 k_6l1 ∧ Hid (loopK (l1 rows k0) m_ (k_6l1) (e1 (fun s' => cntK (l0 rows most fuel) m0 (k0 + 1) s' (e0 ))) = some r) ∧ Hid (Below w.heap.size w wr))
            case atStart => exact ⟨_, rfl, H, HBY6⟩
            case round =>
              obtain ⟨k_6l1, rfl, H, HBwr1⟩ := hrel
              rename World => wr1
              cases gk with
              | zero => exact (loop_zero H).elim
              | succ m1 =>
                replace H := loop_succ H
                unfold l1 at H
                replace H := let_hid H
                obtain ⟨_, rfl, H⟩ := H
                replace H := idx_hid H
                obtain ⟨nt_37, yt_37, et_37, lt_37, gt_37, H⟩ := H
                obtain rfl : k0 = nt_37 := by omega
                clear et_37
                obtain ⟨ab_t_37, ao_t_37, zt_37, At_37, z_t_37, ct_37_0⟩ := strs_at M0.out lt_37
                obtain rfl := Option.some.inj (gt_37.out.symm.trans z_t_37)
                simp only [Option.some.injEq, Addr.mk.injEq] at At_37
                obtain ⟨rfl, rfl, _⟩ := At_37
                have ltt_37 := cell_lt ct_37_0
                replace ct_37_0 := cell_below HBwr1.out ct_37_0
                clear z_t_37
                have b0t_37 : (0 : Int) ≤ (k0 : Int) := by omega
                have b1t_37 : (k0 : Int) < ((rows.length : Nat) : Int) := by omega
                have b2t_37 : ((k0 : Int)).toNat = k0 := by omega
                replace H := let_hid H
                obtain ⟨t_40, ht_40, H⟩ := H
                cases t_40 with
                | false =>
                  replace H := ite_f H
                  replace H := app_hid H
                  unfold e1 at H
                  replace H := let_hid H
                  obtain ⟨_, rfl, H⟩ := H
                  replace H := app_hid H
                  go_wp2_with fail
                  go_roundg m0
                  case measure => omega
                  case rel => exact ⟨k0 + 1, by omega, by go_num, H, HBwr1⟩
                | true =>
                  replace H := ite_t H
                  replace H := idx_hid H
                  obtain ⟨nt_43, yt_43, et_43, lt_43, gt_43, H⟩ := H
                  obtain rfl : k0 = nt_43 := by omega
                  clear et_43
                  obtain rfl := Option.some.inj (gt_37.out.symm.trans gt_43.out)
                  clear gt_43 lt_43
                  replace H := idx_hid H
                  obtain ⟨nt_46, yt_46, et_46, lt_46, gt_46, H⟩ := H
                  subst et_46
                  have nc_2 : nt_46 < yt_37.size := by have := of_decide_eq_true ht_40; omega
                  have rt_46 := byte_rule lt_46 gt_46.out
                  have b0t_46 : (0 : Int) ≤ (nt_46 : Int) := by omega
                  have b1t_46 : (nt_46 : Int) < (yt_37.size : Int) := by have := size_list yt_37; omega
                  have b2t_46 : ((nt_46 : Int)).toNat = nt_46 := by omega
                  have b3t_46 : nt_46 < yt_37.size := by have := size_list yt_37; omega
                  replace H := let_hid H
                  obtain ⟨t_46, ht_46, H⟩ := H
                  replace H := let_hid H
                  obtain ⟨t_49, ht_49, H⟩ := H
                  replace H := join_hid H
                  cases t_49 with
                  | false =>
                    replace H := ite_f H
                    replace H := app_hid H
                    replace H := ite_f H
                    replace H := let_hid H
                    obtain ⟨t_60, ht_60, H⟩ := H
                    replace H := app_hid H
                    go_wp2_with fail
                    go_roundg m1
                    case measure => omega
                    case rel => exact ⟨_, rfl, H, HBwr1⟩
                  | true =>
                    replace H := ite_t H
                    replace H := let_hid H
                    obtain ⟨t_52, ht_52, H⟩ := H
                    replace H := join_hid H
                    cases t_52 with
                    | false =>
                      replace H := ite_f H
                      replace H := let_hid H
                      obtain ⟨t_55, ht_55, H⟩ := H
                      replace H := app_hid H
                      replace H := app_hid H
                      cases t_55 with
                      | false =>
                        replace H := ite_f H
                        replace H := let_hid H
                        obtain ⟨t_60, ht_60, H⟩ := H
                        replace H := app_hid H
                        go_wp2_with fail
                        go_roundg m1
                        case measure => omega
                        case rel => exact ⟨_, rfl, H, HBwr1⟩
                      | true =>
                        replace H := ite_t H
                        obtain rfl := ret_hid H
                        go_wp2_with fail
                        go_ret
                        exact ⟨rfl, HBwr1.out⟩
                    | true =>
                      replace H := ite_t H
                      replace H := app_hid H
                      replace H := app_hid H
                      replace H := ite_t H
                      obtain rfl := ret_hid H
                      go_wp2_with fail
                      go_ret
                      exact ⟨rfl, HBwr1.out⟩
        | true =>
          have nht_21 : ¬ (yt_14.size = yt_18.size) := by have := bne_iff_ne.1 ht_21; omega
          replace H := ite_t H
          replace H := app_hid H
          refine wp_region_quiet_below (by kernel_rfl) (by kernel_rfl) ?_
          repeat (go_big_quiet_step (fail))
          refine wpQuiet_nil ?_
          intro Y6 hY6
          replace hY6 := below_class hY6
          replace ct_14_0 := Hct_14_0.out
          clear Hct_14_0
          replace ct_18_0 := Hct_18_0.out
          clear Hct_18_0
          have HBY6 := Lib.hid (Below.step HBwr0.out hY6)
          replace ct_14_0 := cell_below hY6 ct_14_0
          replace ct_18_0 := cell_below hY6 ct_18_0
          clear hY6
          replace H := ite_t H
          obtain rfl := ret_hid H
          go_wp2_with fail
          go_ret
          exact ⟨rfl, HBY6.out⟩
end Go.Proofs.Ytaknldlglfnbfaa.GsL4Rows
