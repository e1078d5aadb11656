/- loop.example/g01062/spec.DoAgree as a plain function, and the contract of the program's: where the plain one has an answer, the program has it. Conditions: slices read as lists. -/
import Derived.Test.YtfbdaedoofkcbaaChecked
import Derived.Test.YtfbdaedoofkcbaaGoM
import Derived.Test.YtfbdaedoofkcbaaGoRBlock
import Derived.Test.YtfbdaedoofkcbaaPBlock
import Derived.Test.YtfbdaedoofkcbaaGsIsBlock
import Derived.Test.YtfbdaedoofkcbaaGsL1In
import Derived.WalkKit
import Derived.WalkSpells
import Derived.WalkLawsBesides
import Derived.BigQuiet
import Derived.OwnWalk
import Derived.Deep.LoopGhost
import Derived.Deep.QuietTactic
import Derived.IntWalk
import Derived.Lib.QuietBelow
namespace Go.Proofs.Ytfbdaedoofkcbaa.GsDoAgree
set_option linter.unusedVariables false
set_option linter.unusedSimpArgs false
open Go.RowKit
open Go.Proofs.Ytfbdaedoofkcbaa.Rowed Go.Proofs.Ytfbdaedoofkcbaa.Turn Go.Proofs.Ytfbdaedoofkcbaa.Aid Go.Proofs.Ytfbdaedoofkcbaa.GoP Go.Proofs.Ytfbdaedoofkcbaa.GoM

def l1 (a_rows : (List ByteArray)) (b_rows : (List ByteArray)) (down : Int) (right : Int) (i_10l0 : Int) (s : Int) (nx1 bk1 : Int → Option (Bool × Bool)) : Option (Bool × Bool) :=
  letK s fun k_11l1 =>
  Option.bind (idx a_rows 0) fun (yt_34 : ByteArray) =>
  letK (decide (k_11l1 < (yt_34.size : Int))) fun (t_37 : Bool) =>
  iteK t_37
  (letK (IntKind.i64.wrap (i_10l0 - down)) fun (t_40 : Int) =>
  letK (IntKind.i64.wrap (k_11l1 - right)) fun (t_43 : Int) =>
  letK (IntKind.i64.wrap ((b_rows.length : Int) - 1)) fun (t_50 : Int) =>
  Option.bind (Go.Proofs.Ytfbdaedoofkcbaa.GsL1In.P t_40 0 t_50) fun (t_51 : Bool) =>
  letK (!t_51) fun (t_52 : Bool) =>
  joinK (fun (t_63 : Bool) =>
  iteK t_63
  (letK (IntKind.i64.wrap (k_11l1 + 1)) fun (t_94 : Int) =>
  appK nx1 (t_94))
  (Option.bind (idx a_rows i_10l0) fun (yt_67 : ByteArray) =>
  Option.bind (idx yt_67.toList k_11l1) fun (yt_70 : UInt8) =>
  letK ((yt_70.toNat : Int)) fun (t_70 : Int) =>
  Option.bind (idx b_rows t_40) fun (yt_74 : ByteArray) =>
  Option.bind (idx yt_74.toList t_43) fun (yt_77 : UInt8) =>
  letK ((yt_77.toNat : Int)) fun (t_77 : Int) =>
  letK (t_70 != 46) fun (t_81 : Bool) =>
  joinK (fun (t_85 : Bool) =>
  joinK (fun (t_90 : Bool) =>
  iteK t_90
  (some (false, true))
  (letK (IntKind.i64.wrap (k_11l1 + 1)) fun (t_94 : Int) =>
  appK nx1 (t_94))) fun jt_90 => iteK t_85 (letK (t_70 != t_77) fun (t_89 : Bool) =>
  appK jt_90 t_89) (appK jt_90 false)) fun jt_85 => iteK t_81 (letK (t_77 != 46) fun (t_84 : Bool) =>
  appK jt_85 t_84) (appK jt_85 false))) fun jt_63 => iteK t_52 (appK jt_63 true) (Option.bind (idx b_rows 0) fun (yt_57 : ByteArray) =>
  letK (IntKind.i64.wrap ((yt_57.size : Int) - 1)) fun (t_60 : Int) =>
  Option.bind (Go.Proofs.Ytfbdaedoofkcbaa.GsL1In.P t_43 0 t_60) fun (t_61 : Bool) =>
  letK (!t_61) fun (t_62 : Bool) =>
  appK jt_63 t_62))
  (appK bk1 (k_11l1))

def e1 (nx0 : (Int) → Option (Bool × Bool)) (i_10l0 : Int) (s : Int) : Option (Bool × Bool) :=
  letK s fun k_11l1 =>
  letK (IntKind.i64.wrap (i_10l0 + 1)) fun (t_97 : Int) =>
  appK nx0 (t_97)

def l0 (a_rows : (List ByteArray)) (b_rows : (List ByteArray)) (down : Int) (right : Int) (fuel : Nat) (s : Int) (nx0 bk0 : Int → Option (Bool × Bool)) : Option (Bool × Bool) :=
  letK s fun i_10l0 =>
  letK (decide (i_10l0 < (a_rows.length : Int))) fun (t_29 : Bool) =>
  iteK t_29
  (loopK (l1 a_rows b_rows down right i_10l0) fuel (0) (e1 nx0 i_10l0))
  (appK bk0 (i_10l0))

def e0  (s : Int) : Option (Bool × Bool) :=
  letK s fun i_10l0 =>
  some (true, true)

def P (fuel : Nat) (a_rows : (List ByteArray)) (b_rows : (List ByteArray)) (down : Int) (right : Int) : Option (Bool × Bool) :=
  Option.bind (Go.Proofs.Ytfbdaedoofkcbaa.GsIsBlock.P fuel a_rows) fun (t_5 : Bool) =>
  letK (!t_5) fun (t_6 : Bool) =>
  joinK (fun (t_11 : Bool) =>
  joinK (fun (t_16 : Bool) =>
  joinK (fun (t_21 : Bool) =>
  iteK t_21
  (some (false, false))
  (loopK (l0 a_rows b_rows down right fuel) fuel (0) (e0 ))) fun jt_21 => iteK t_16 (appK jt_21 true) (Option.bind (Go.Proofs.Ytfbdaedoofkcbaa.GsL1In.P right (-2) 2) fun (t_19 : Bool) =>
  letK (!t_19) fun (t_20 : Bool) =>
  appK jt_21 t_20)) fun jt_16 => iteK t_11 (appK jt_16 true) (Option.bind (Go.Proofs.Ytfbdaedoofkcbaa.GsL1In.P down (-2) 2) fun (t_14 : Bool) =>
  letK (!t_14) fun (t_15 : Bool) =>
  appK jt_16 t_15)) fun jt_11 => iteK t_6 (appK jt_11 true) (Option.bind (Go.Proofs.Ytfbdaedoofkcbaa.GsIsBlock.P fuel b_rows) fun (t_9 : Bool) =>
  letK (!t_9) fun (t_10 : Bool) =>
  appK jt_11 t_10)

set_option maxRecDepth 100000 in
set_option maxHeartbeats 2000000 in
theorem C (fuel : Nat) (a_rows : (List ByteArray)) (b_rows : (List ByteArray)) (down : Int) (right : Int) (A0_0 : Option Addr) (c0_0 : Nat) (A1_0 : Option Addr) (c1_0 : Nat)  (w : World) (M0_0 : Hid (Cells w 1 A0_0 a_rows.length (a_rows.map Value.string))) (N0_0 : Hid (a_rows.length ≤ 9223372036854775807)) (M1_0 : Hid (Cells w 1 A1_0 b_rows.length (b_rows.map Value.string))) (N1_0 : Hid (b_rows.length ≤ 9223372036854775807))  {r0 : Bool} {r1 : Bool} (H : Hid (P fuel a_rows b_rows down right = some (r0, r1))) :
    Calls Try.prog 45 #[.agg #[.slice A0_0 a_rows.length c0_0], .agg #[.slice A1_0 b_rows.length c1_0], .int .i64 down, .int .i64 right] w (Gives (.tuple #[.bool r0, .bool r1]) w) := by
  have HB := Lib.hid (Below.refl w.heap.size w)
  unfold P at H
  have N0_0o := N0_0.out
  have N1_0o := N1_0.out
  go_enter Try.func45, Try.ntmps45
  obtain ⟨w_a_0, hw_a_0⟩ : ∃ x, w.alloc (.cells #[.slice A0_0 a_rows.length c0_0] 27) = x := ⟨_, rfl⟩
  have bw_a_0 : Below w.heap.size w w_a_0 := by rw [← hw_a_0]; exact (Below.refl _ _).alloc (Nat.le_refl _) _
  have HBw_a_0 := Lib.hid (Below.step HB.out bw_a_0)
  clear bw_a_0
  have ka_0_0 : w_a_0.cell? ⟨w.heap.size, 0, none⟩ = some (.slice A0_0 a_rows.length c0_0) := by rw [← hw_a_0]; exact box_new _ _ _ 0 _ rfl
  obtain ⟨w_b_1, hw_b_1⟩ : ∃ x, w_a_0.alloc (.cells #[.slice A1_0 b_rows.length c1_0] 27) = x := ⟨_, rfl⟩
  have bw_b_1 : Below w_a_0.heap.size w_a_0 w_b_1 := by rw [← hw_b_1]; exact (Below.refl _ _).alloc (Nat.le_refl _) _
  have HBw_b_1 := Lib.hid (Below.step HBw_a_0.out bw_b_1)
  have ka_0_0__13 := cell_below bw_b_1 ka_0_0
  clear bw_b_1
  have kb_1_0 : w_b_1.cell? ⟨w_a_0.heap.size, 0, none⟩ = some (.slice A1_0 b_rows.length c1_0) := by rw [← hw_b_1]; exact box_new _ _ _ 0 _ rfl
  replace H := bind_hid H
  obtain ⟨t_5, qt_5, H⟩ := H
  go_wp2_with fail
  clear ka_0_0
  go_at_call 16
  refine (Go.Proofs.Ytfbdaedoofkcbaa.GsIsBlock.C fuel (a_rows) A0_0 c0_0 _ (Lib.hid (Cells.below M0_0.out HBw_b_1.out)) N0_0 qt_5).mono ?_
  rintro e_t_5 wt_5 ⟨rfl, bt_5⟩
  have HBwt_5 := Lib.hid (Below.step HBw_b_1.out bt_5)
  replace ka_0_0__13 := cell_below bt_5 ka_0_0__13
  replace kb_1_0 := cell_below bt_5 kb_1_0
  clear bt_5
  cases t_5 with
  | false =>
    replace H := let_hid H
    obtain ⟨t_6, ht_6, H⟩ := H
    obtain rfl : t_6 = true := ht_6.symm
    replace H := join_hid H
    replace H := ite_t H
    replace H := app_hid H
    replace H := join_hid H
    replace H := ite_t H
    replace H := app_hid H
    replace H := join_hid H
    replace H := ite_t H
    replace H := app_hid H
    replace H := ite_t H
    cases ret_hid H
    go_wp2_with fail
    go_ret2
    exact ⟨rfl, HBwt_5.out⟩
  | true =>
    replace H := let_hid H
    obtain ⟨t_6, ht_6, H⟩ := H
    obtain rfl : t_6 = false := ht_6.symm
    replace H := join_hid H
    replace H := ite_f H
    replace H := bind_hid H
    obtain ⟨t_9, qt_9, H⟩ := H
    go_wp2_with fail
    go_at_call 16
    refine (Go.Proofs.Ytfbdaedoofkcbaa.GsIsBlock.C fuel (b_rows) A1_0 c1_0 _ (Lib.hid (Cells.below M1_0.out HBwt_5.out)) N1_0 qt_9).mono ?_
    rintro e_t_9 wt_9 ⟨rfl, bt_9⟩
    have HBwt_9 := Lib.hid (Below.step HBwt_5.out bt_9)
    replace ka_0_0__13 := cell_below bt_9 ka_0_0__13
    replace kb_1_0 := cell_below bt_9 kb_1_0
    clear bt_9
    cases t_9 with
    | false =>
      replace H := let_hid H
      obtain ⟨t_10, ht_10, H⟩ := H
      obtain rfl : t_10 = true := ht_10.symm
      replace H := app_hid H
      replace H := join_hid H
      replace H := ite_t H
      replace H := app_hid H
      replace H := join_hid H
      replace H := ite_t H
      replace H := app_hid H
      replace H := ite_t H
      cases ret_hid H
      go_wp2_with fail
      go_ret2
      exact ⟨rfl, HBwt_9.out⟩
    | true =>
      replace H := let_hid H
      obtain ⟨t_10, ht_10, H⟩ := H
      obtain rfl : t_10 = false := ht_10.symm
      replace H := app_hid H
      replace H := join_hid H
      replace H := ite_f H
      replace H := bind_hid H
      obtain ⟨t_14, qt_14, H⟩ := H
      go_wp2_with fail
      go_at_call 76
      refine (Go.Proofs.Ytfbdaedoofkcbaa.GsL1In.C (down) ((-2)) (2)  _  qt_14).mono ?_
      rintro e_t_14 wt_14 ⟨rfl, bt_14⟩
      have HBwt_14 := Lib.hid (Below.step HBwt_9.out bt_14)
      replace ka_0_0__13 := cell_below bt_14 ka_0_0__13
      replace kb_1_0 := cell_below bt_14 kb_1_0
      clear bt_14
      cases t_14 with
      | false =>
        replace H := let_hid H
        obtain ⟨t_15, ht_15, H⟩ := H
        obtain rfl : t_15 = true := ht_15.symm
        replace H := app_hid H
        replace H := join_hid H
        replace H := ite_t H
        replace H := app_hid H
        replace H := ite_t H
        cases ret_hid H
        go_wp2_with fail
        go_ret2
        exact ⟨rfl, HBwt_14.out⟩
      | true =>
        replace H := let_hid H
        obtain ⟨t_15, ht_15, H⟩ := H
        obtain rfl : t_15 = false := ht_15.symm
        replace H := app_hid H
        replace H := join_hid H
        replace H := ite_f H
        replace H := bind_hid H
        obtain ⟨t_19, qt_19, H⟩ := H
        go_wp2_with fail
        go_at_call 76
        refine (Go.Proofs.Ytfbdaedoofkcbaa.GsL1In.C (right) ((-2)) (2)  _  qt_19).mono ?_
        rintro e_t_19 wt_19 ⟨rfl, bt_19⟩
        have HBwt_19 := Lib.hid (Below.step HBwt_14.out bt_19)
        replace ka_0_0__13 := cell_below bt_19 ka_0_0__13
        replace kb_1_0 := cell_below bt_19 kb_1_0
        clear bt_19
        cases t_19 with
        | false =>
          replace H := let_hid H
          obtain ⟨t_20, ht_20, H⟩ := H
          obtain rfl : t_20 = true := ht_20.symm
          replace H := app_hid H
          replace H := ite_t H
          cases ret_hid H
          go_wp2_with fail
          go_ret2
          exact ⟨rfl, HBwt_19.out⟩
        | true =>
          replace H := let_hid H
          obtain ⟨t_20, ht_20, H⟩ := H
          obtain rfl : t_20 = false := ht_20.symm
          replace H := app_hid H
          replace H := ite_f H
          go_wp2_with fail
          go_loopg [10] (fuel) (fun m_ v10_ wr => ∃ (i_10l0 : Int), v10_ = .int .i64 i_10l0 ∧ Hid (loopK (l0 a_rows b_rows down right fuel) m_ (i_10l0) (e0 ) = some (r0, r1)) ∧ Hid (Below w.heap.size w wr) ∧ wr.cell? ⟨w.heap.size, 0, none⟩ = some (.slice A0_0 a_rows.length c0_0) ∧ wr.cell? ⟨w_a_0.heap.size, 0, none⟩ = some (.slice A1_0 b_rows.length c1_0))
          case atStart => exact ⟨_, rfl, H, HBwt_19, ka_0_0__13, kb_1_0⟩
          case round =>
            obtain ⟨i_10l0, rfl, H, HBwr0, ka_0_0__13, kb_1_0⟩ := hrel
            rename World => wr0
            cases gk with
            | zero => exact (loop_zero H).elim
            | succ m0 =>
              replace H := loop_succ H
              unfold l0 at H
              replace H := let_hid H
              obtain ⟨_, rfl, H⟩ := H
              replace H := let_hid H
              obtain ⟨t_29, ht_29, H⟩ := H
              cases t_29 with
              | false =>
                replace H := ite_f H
                replace H := app_hid H
                unfold e0 at H
                replace H := let_hid H
                obtain ⟨_, rfl, H⟩ := H
                cases ret_hid H
                go_wp2_with fail
                go_ret2
                exact ⟨rfl, HBwr0.out⟩
              | true =>
                replace H := ite_t H
                go_wp2_with fail
                go_loopg [11] (fuel) (fun m_ v11_ wr => ∃ (k_11l1 : Int), v11_ = .int .i64 k_11l1 ∧ Hid (loopK (l1 a_rows b_rows down right i_10l0) m_ (k_11l1) (e1 (fun s' => loopK (l0 a_rows b_rows down right fuel) m0 s' (e0 )) i_10l0) = some (r0, r1)) ∧ Hid (Below w.heap.size w wr) ∧ wr.cell? ⟨w.heap.size, 0, none⟩ = some (.slice A0_0 a_rows.length c0_0) ∧ wr.cell? ⟨w_a_0.heap.size, 0, none⟩ = some (.slice A1_0 b_rows.length c1_0))
                case atStart => exact ⟨_, rfl, H, HBwr0, ka_0_0__13, kb_1_0⟩
                case round =>
                  obtain ⟨k_11l1, rfl, H, HBwr1, ka_0_0__13, kb_1_0⟩ := hrel
                  rename World => wr1
                  cases gk with
                  | zero => exact (loop_zero H).elim
                  | succ m1 =>
                    replace H := loop_succ H
                    unfold l1 at H
                    replace H := let_hid H
                    obtain ⟨_, rfl, H⟩ := H
                    replace H := idx_hid H
                    obtain ⟨nt_34, yt_34, et_34, lt_34, gt_34, H⟩ := H
                    obtain rfl : 0 = nt_34 := by omega
                    clear et_34
                    obtain ⟨ab_t_34, ao_t_34, zt_34, At_34, z_t_34, ct_34_0⟩ := strs_at M0_0.out lt_34
                    obtain rfl := Option.some.inj (gt_34.out.symm.trans z_t_34)
                    subst At_34
                    have ltt_34 := cell_lt ct_34_0
                    replace ct_34_0 := cell_below HBwr1.out ct_34_0
                    clear z_t_34
                    have b1t_34 : (0 : Int) < ((a_rows.length : Nat) : Int) := by omega
                    have b3t_34 : 0 < a_rows.length := by omega
                    simp only [Nat.zero_mul, Nat.add_zero, Nat.zero_add, Nat.reduceMul] at ct_34_0
                    replace H := let_hid H
                    obtain ⟨t_37, ht_37, H⟩ := H
                    cases t_37 with
                    | false =>
                      replace H := ite_f H
                      replace H := app_hid H
                      unfold e1 at H
                      replace H := let_hid H
                      obtain ⟨_, rfl, H⟩ := H
                      replace H := let_hid H
                      obtain ⟨t_97, ht_97, H⟩ := H
                      replace H := app_hid H
                      go_wp2_with fail
                      go_roundg m0
                      case measure => omega
                      case rel => exact ⟨_, rfl, H, HBwr1, ka_0_0__13, kb_1_0⟩
                    | true =>
                      replace H := ite_t H
                      replace H := let_hid H
                      obtain ⟨t_40, ht_40, H⟩ := H
                      replace H := let_hid H
                      obtain ⟨t_43, ht_43, H⟩ := H
                      replace H := let_hid H
                      obtain ⟨t_50, ht_50, H⟩ := H
                      replace H := bind_hid H
                      obtain ⟨t_51, qt_51, H⟩ := H
                      go_wp2_with fail
                      go_at_call 76
                      refine (Go.Proofs.Ytfbdaedoofkcbaa.GsL1In.C (t_40) (0) (t_50)  _  qt_51).mono ?_
                      rintro e_t_51 wt_51 ⟨rfl, bt_51⟩
                      have HBwt_51 := Lib.hid (Below.step HBwr1.out bt_51)
                      replace ka_0_0__13 := cell_below bt_51 ka_0_0__13
                      replace kb_1_0 := cell_below bt_51 kb_1_0
                      replace ct_34_0 := cell_below bt_51 ct_34_0
                      clear bt_51
                      cases t_51 with
                      | false =>
                        replace H := let_hid H
                        obtain ⟨t_52, ht_52, H⟩ := H
                        obtain rfl : t_52 = true := ht_52.symm
                        replace H := join_hid H
                        replace H := ite_t H
                        replace H := app_hid H
                        replace H := ite_t H
                        replace H := let_hid H
                        obtain ⟨t_94, ht_94, H⟩ := H
                        replace H := app_hid H
                        go_wp2_with fail
                        go_roundg m1
                        case measure => omega
                        case rel => exact ⟨_, rfl, H, HBwt_51, ka_0_0__13, kb_1_0⟩
                      | true =>
                        replace H := let_hid H
                        obtain ⟨t_52, ht_52, H⟩ := H
                        obtain rfl : t_52 = false := ht_52.symm
                        replace H := join_hid H
                        replace H := ite_f H
                        replace H := idx_hid H
                        obtain ⟨nt_57, yt_57, et_57, lt_57, gt_57, H⟩ := H
                        obtain rfl : 0 = nt_57 := by omega
                        clear et_57
                        obtain ⟨ab_t_57, ao_t_57, zt_57, At_57, z_t_57, ct_57_0⟩ := strs_at M1_0.out lt_57
                        obtain rfl := Option.some.inj (gt_57.out.symm.trans z_t_57)
                        subst At_57
                        have ltt_57 := cell_lt ct_57_0
                        replace ct_57_0 := cell_below HBwt_51.out ct_57_0
                        clear z_t_57
                        have b1t_57 : (0 : Int) < ((b_rows.length : Nat) : Int) := by omega
                        have b3t_57 : 0 < b_rows.length := by omega
                        simp only [Nat.zero_mul, Nat.add_zero, Nat.zero_add, Nat.reduceMul] at ct_57_0
                        replace H := let_hid H
                        obtain ⟨t_60, ht_60, H⟩ := H
                        replace H := bind_hid H
                        obtain ⟨t_61, qt_61, H⟩ := H
                        go_wp2_with fail
                        go_at_call 76
                        refine (Go.Proofs.Ytfbdaedoofkcbaa.GsL1In.C (t_43) (0) (t_60)  _  qt_61).mono ?_
                        rintro e_t_61 wt_61 ⟨rfl, bt_61⟩
                        have HBwt_61 := Lib.hid (Below.step HBwt_51.out bt_61)
                        replace ka_0_0__13 := cell_below bt_61 ka_0_0__13
                        replace kb_1_0 := cell_below bt_61 kb_1_0
                        replace ct_34_0 := cell_below bt_61 ct_34_0
                        replace ct_57_0 := cell_below bt_61 ct_57_0
                        clear bt_61
                        cases t_61 with
                        | false =>
                          replace H := let_hid H
                          obtain ⟨t_62, ht_62, H⟩ := H
                          obtain rfl : t_62 = true := ht_62.symm
                          replace H := app_hid H
                          replace H := ite_t H
                          replace H := let_hid H
                          obtain ⟨t_94, ht_94, H⟩ := H
                          replace H := app_hid H
                          go_wp2_with fail
                          go_roundg m1
                          case measure => omega
                          case rel => exact ⟨_, rfl, H, HBwt_61, ka_0_0__13, kb_1_0⟩
                        | true =>
                          replace H := let_hid H
                          obtain ⟨t_62, ht_62, H⟩ := H
                          obtain rfl : t_62 = false := ht_62.symm
                          replace H := app_hid H
                          replace H := ite_f H
                          go_wp2_with fail
                          have Hka_0_0__13 := Lib.hid ka_0_0__13
                          replace ka_0_0__13 := cell_regrown ka_0_0__13
                          have Hkb_1_0 := Lib.hid kb_1_0
                          replace kb_1_0 := cell_regrown kb_1_0
                          have Hct_34_0 := Lib.hid ct_34_0
                          replace ct_34_0 := cell_regrown ct_34_0
                          have Hct_57_0 := Lib.hid ct_57_0
                          replace ct_57_0 := cell_regrown ct_57_0
                          replace H := idx_hid H
                          obtain ⟨nt_67, yt_67, et_67, lt_67, gt_67, H⟩ := H
                          subst et_67
                          obtain ⟨ab_t_67, ao_t_67, zt_67, At_67, z_t_67, ct_67_0⟩ := strs_at M0_0.out lt_67
                          obtain rfl := Option.some.inj (gt_67.out.symm.trans z_t_67)
                          simp only [Option.some.injEq, Addr.mk.injEq] at At_67
                          obtain ⟨rfl, rfl, _⟩ := At_67
                          have ltt_67 := cell_lt ct_67_0
                          replace ct_67_0 := cell_below HBwt_61.out ct_67_0
                          clear z_t_67
                          have b0t_67 : (0 : Int) ≤ (nt_67 : Int) := by omega
                          have b1t_67 : (nt_67 : Int) < ((a_rows.length : Nat) : Int) := by omega
                          have b2t_67 : ((nt_67 : Int)).toNat = nt_67 := by omega
                          have Hct_67_0 := Lib.hid ct_67_0
                          replace ct_67_0 := cell_regrown ct_67_0
                          replace H := idx_hid H
                          obtain ⟨nt_70, yt_70, et_70, lt_70, gt_70, H⟩ := H
                          subst et_70
                          have rt_70 := byte_rule lt_70 gt_70.out
                          have b0t_70 : (0 : Int) ≤ (nt_70 : Int) := by omega
                          have b1t_70 : (nt_70 : Int) < (yt_67.size : Int) := by have := size_list yt_67; omega
                          have b2t_70 : ((nt_70 : Int)).toNat = nt_70 := by omega
                          have b3t_70 : nt_70 < yt_67.size := by have := size_list yt_67; omega
                          replace H := let_hid H
                          obtain ⟨t_70, ht_70, H⟩ := H
                          replace H := idx_hid H
                          obtain ⟨nt_74, yt_74, et_74, lt_74, gt_74, H⟩ := H
                          subst et_74
                          obtain ⟨ab_t_74, ao_t_74, zt_74, At_74, z_t_74, ct_74_0⟩ := strs_at M1_0.out lt_74
                          obtain rfl := Option.some.inj (gt_74.out.symm.trans z_t_74)
                          simp only [Option.some.injEq, Addr.mk.injEq] at At_74
                          obtain ⟨rfl, rfl, _⟩ := At_74
                          have ltt_74 := cell_lt ct_74_0
                          replace ct_74_0 := cell_below HBwt_61.out ct_74_0
                          clear z_t_74
                          have b0t_74 : (0 : Int) ≤ (nt_74 : Int) := by omega
                          have b1t_74 : (nt_74 : Int) < ((b_rows.length : Nat) : Int) := by omega
                          have b2t_74 : ((nt_74 : Int)).toNat = nt_74 := by omega
                          have Hct_74_0 := Lib.hid ct_74_0
                          replace ct_74_0 := cell_regrown ct_74_0
                          replace H := idx_hid H
                          obtain ⟨nt_77, yt_77, et_77, lt_77, gt_77, H⟩ := H
                          subst et_77
                          have rt_77 := byte_rule lt_77 gt_77.out
                          have b0t_77 : (0 : Int) ≤ (nt_77 : Int) := by omega
                          have b1t_77 : (nt_77 : Int) < (yt_74.size : Int) := by have := size_list yt_74; omega
                          have b2t_77 : ((nt_77 : Int)).toNat = nt_77 := by omega
                          have b3t_77 : nt_77 < yt_74.size := by have := size_list yt_74; omega
                          replace H := let_hid H
                          obtain ⟨t_77, ht_77, H⟩ := H
                          refine wp_region_quiet_below (by kernel_rfl) (by kernel_rfl) ?_
                          repeat (go_big_quiet_step (fail))
                          refine wpQuiet_nil ?_
                          intro Y11 hY11
                          replace hY11 := below_class hY11
                          replace ka_0_0__13 := Hka_0_0__13.out
                          clear Hka_0_0__13
                          replace kb_1_0 := Hkb_1_0.out
                          clear Hkb_1_0
                          replace ct_34_0 := Hct_34_0.out
                          clear Hct_34_0
                          replace ct_57_0 := Hct_57_0.out
                          clear Hct_57_0
                          replace ct_67_0 := Hct_67_0.out
                          clear Hct_67_0
                          replace ct_74_0 := Hct_74_0.out
                          clear Hct_74_0
                          have HBY11 := Lib.hid (Below.step HBwt_61.out hY11)
                          replace ka_0_0__13 := cell_below hY11 ka_0_0__13
                          replace kb_1_0 := cell_below hY11 kb_1_0
                          replace ct_34_0 := cell_below hY11 ct_34_0
                          replace ct_57_0 := cell_below hY11 ct_57_0
                          replace ct_67_0 := cell_below hY11 ct_67_0
                          replace ct_74_0 := cell_below hY11 ct_74_0
                          clear hY11
                          replace H := let_hid H
                          obtain ⟨t_81, ht_81, H⟩ := H
                          replace H := join_hid H
                          cases t_81 with
                          | false =>
                            replace H := ite_f H
                            replace H := app_hid H
                            replace H := join_hid H
                            replace H := ite_f H
                            replace H := app_hid H
                            replace H := ite_f H
                            replace H := let_hid H
                            obtain ⟨t_94, ht_94, H⟩ := H
                            replace H := app_hid H
                            go_wp2_with fail
                            go_roundg m1
                            case measure => omega
                            case rel => exact ⟨_, rfl, H, HBY11, ka_0_0__13, kb_1_0⟩
                          | true =>
                            replace H := ite_t H
                            replace H := let_hid H
                            obtain ⟨t_84, ht_84, H⟩ := H
                            replace H := app_hid H
                            replace H := join_hid H
                            cases t_84 with
                            | false =>
                              replace H := ite_f H
                              replace H := app_hid H
                              replace H := ite_f H
                              replace H := let_hid H
                              obtain ⟨t_94, ht_94, H⟩ := H
                              replace H := app_hid H
                              go_wp2_with fail
                              go_roundg m1
                              case measure => omega
                              case rel => exact ⟨_, rfl, H, HBY11, ka_0_0__13, kb_1_0⟩
                            | true =>
                              replace H := ite_t H
                              replace H := let_hid H
                              obtain ⟨t_89, ht_89, H⟩ := H
                              replace H := app_hid H
                              cases t_89 with
                              | false =>
                                replace H := ite_f H
                                replace H := let_hid H
                                obtain ⟨t_94, ht_94, H⟩ := H
                                replace H := app_hid H
                                go_wp2_with fail
                                go_roundg m1
                                case measure => omega
                                case rel => exact ⟨_, rfl, H, HBY11, ka_0_0__13, kb_1_0⟩
                              | true =>
                                replace H := ite_t H
                                cases ret_hid H
                                go_wp2_with fail
                                go_ret2
                                exact ⟨rfl, HBY11.out⟩
end Go.Proofs.Ytfbdaedoofkcbaa.GsDoAgree
