/- Texts on which the proofs of several laws stand, one behind the other (2 of 13). No condition of their own. -/
import Derived.Test.YtlljmgphgmklcaaChecked
import Derived.Test.YtlljmgphgmklcaaW10P1
import Derived.WalkKit
import Derived.WalkSpells
import Derived.WalkLawsBesides
import Derived.BigQuiet
import Derived.OwnWalk
import Derived.Deep.LoopGhost
import Derived.Deep.QuietTactic
import Derived.IntWalk
import Derived.Lib.QuietBelow
/- (*loop.example/g01062/spec.l1Cur).pick as a plain function, and the contract of the program's: where the plain one has an answer, the program has it. Conditions: slices read as lists. -/
namespace Go.Proofs.Ytlljmgphgmklcaa.GsL1CurPick
set_option linter.unusedVariables false
set_option linter.unusedSimpArgs false
open Go.RowKit
open Go.Proofs.Ytlljmgphgmklcaa.Rowed Go.Proofs.Ytlljmgphgmklcaa.Turn Go.Proofs.Ytlljmgphgmklcaa.Aid Go.Proofs.Ytlljmgphgmklcaa.GoP Go.Proofs.Ytlljmgphgmklcaa.GoM

def j0 (n_1 : Int) (s : Int × Go.Proofs.Ytlljmgphgmklcaa.GoC.Tape) : Option (Int × Go.Proofs.Ytlljmgphgmklcaa.GoC.Tape) :=
  unp2 s fun x_5j0 c0_c0j0 =>
  guardK (¬ (n_1 = 0)) <|
  letK (Int.tmod x_5j0 n_1) fun (t_17 : Int) =>
  some (t_17, c0_c0j0)

def P (c : Go.Proofs.Ytlljmgphgmklcaa.GoC.Tape) (n_1 : Int) : Option (Int × Go.Proofs.Ytlljmgphgmklcaa.GoC.Tape) :=
  letK (decide (n_1 ≤ 1)) fun (t_2 : Bool) =>
  iteK t_2
  (some (0, c))
  (bind2 (Go.Proofs.Ytlljmgphgmklcaa.GsL1CurNext.P c) fun (t_5 : Int) (t_5_tp : Go.Proofs.Ytlljmgphgmklcaa.GoC.Tape) =>
  letK (decide (200 < n_1)) fun (t_8 : Bool) =>
  iteK t_8
  (letK (IntKind.i64.wrap (t_5 * 256)) fun (t_10 : Int) =>
  bind2 (Go.Proofs.Ytlljmgphgmklcaa.GsL1CurNext.P t_5_tp) fun (t_12 : Int) (t_12_tp : Go.Proofs.Ytlljmgphgmklcaa.GoC.Tape) =>
  letK (IntKind.i64.wrap (t_10 + t_12)) fun (t_13 : Int) =>
  j0 n_1 (t_13, t_12_tp))
  (j0 n_1 (t_5, t_5_tp)))

set_option maxRecDepth 100000 in
set_option maxHeartbeats 2000000 in
theorem C (c : Go.Proofs.Ytlljmgphgmklcaa.GoC.Tape) (n_1 : Int)   (g0 : Nat) (Ac0 : Option Addr) (cc0 : Nat) (bc0 : Nat) (w : World)   (K0 : Hid (Go.Proofs.Ytlljmgphgmklcaa.GoC.CurIs w bc0 g0 Ac0 cc0 c)) {r : Int} {t_ : Go.Proofs.Ytlljmgphgmklcaa.GoC.Tape} (H : Hid (P c n_1 = some (r, t_))) :
    Calls Try.prog 120 #[.pointer (some ⟨g0, 0, none⟩), .int .i64 n_1] w (fun e w' => e = .returned (.int .i64 r) ∧ Go.Proofs.Ytlljmgphgmklcaa.GoC.CurIs w' bc0 g0 Ac0 cc0 t_ ∧ w.grownBy w' (Value.slice (some ⟨g0, 0, none⟩) 1 1).ownBlock) := by
  have HB := Lib.hid (Aid.grown_refl w (Value.slice (some ⟨g0, 0, none⟩) 1 1).ownBlock)
  unfold P at H
  have L0 : bc0 ≤ w.heap.size := by have := Go.Proofs.Ytlljmgphgmklcaa.GoC.cur_lt K0.out; omega
  go_enter Try.func120, Try.ntmps120
  replace H := let_hid H
  obtain ⟨t_2, ht_2, H⟩ := H
  cases t_2 with
  | false =>
    replace H := ite_f H
    replace H := bind2_hid H
    obtain ⟨t_5, t_5_tp, qt_5, H⟩ := H
    go_wp2_with fail
    go_at_call 158
    refine (Go.Proofs.Ytlljmgphgmklcaa.GsL1CurNext.C (c) (g0) (Ac0) (cc0) (bc0) _   K0 qt_5).mono ?_
    rintro e_t_5 wt_5 ⟨rfl, kt_5, gt_5⟩
    have Kt_5 := Lib.hid kt_5
    have Gt_5 : Hid (w.grownBy wt_5 (Value.slice (some ⟨g0, 0, none⟩) 1 1).ownBlock) := Lib.hid gt_5
    clear kt_5 gt_5
    have HBwt_5 := Lib.hid (Aid.grown_tr HB.out Gt_5.out)
    clear K0 Gt_5
    replace H := let_hid H
    obtain ⟨t_8, ht_8, H⟩ := H
    cases t_8 with
    | false =>
      replace H := ite_f H
      unfold j0 at H
      replace H := unp2_hid H
      replace H := guard_hid H
      obtain ⟨hz_t_17, H⟩ := H
      replace H := let_hid H
      obtain ⟨t_17, ht_17, H⟩ := H
      cases ret_hid H
      go_wp2_with fail
      go_ret
      exact ⟨rfl, Kt_5.out, HBwt_5.out⟩
    | true =>
      replace H := ite_t H
      replace H := let_hid H
      obtain ⟨t_10, ht_10, H⟩ := H
      replace H := bind2_hid H
      obtain ⟨t_12, t_12_tp, qt_12, H⟩ := H
      go_wp2_with fail
      go_at_call 158
      refine (Go.Proofs.Ytlljmgphgmklcaa.GsL1CurNext.C (t_5_tp) (g0) (Ac0) (cc0) (bc0) _   Kt_5 qt_12).mono ?_
      rintro e_t_12 wt_12 ⟨rfl, kt_12, gt_12⟩
      have Kt_12 := Lib.hid kt_12
      have Gt_12 : Hid (wt_5.grownBy wt_12 (Value.slice (some ⟨g0, 0, none⟩) 1 1).ownBlock) := Lib.hid gt_12
      clear kt_12 gt_12
      have HBwt_12 := Lib.hid (Aid.grown_tr HBwt_5.out Gt_12.out)
      clear Kt_5 Gt_12
      replace H := let_hid H
      obtain ⟨t_13, ht_13, H⟩ := H
      unfold j0 at H
      replace H := unp2_hid H
      replace H := guard_hid H
      obtain ⟨hz_t_17, H⟩ := H
      replace H := let_hid H
      obtain ⟨t_17, ht_17, H⟩ := H
      cases ret_hid H
      go_wp2_with fail
      go_ret
      exact ⟨rfl, Kt_12.out, HBwt_12.out⟩
  | true =>
    replace H := ite_t H
    cases ret_hid H
    go_wp2_with fail
    go_ret
    exact ⟨rfl, K0.out, HB.out⟩
end Go.Proofs.Ytlljmgphgmklcaa.GsL1CurPick

/- (*loop.example/g01062/spec.l1Cur).one as a plain function, and the contract of the program's: where the plain one has an answer, the program has it. Conditions: slices read as lists. -/
namespace Go.Proofs.Ytlljmgphgmklcaa.GsL1CurOne
set_option linter.unusedVariables false
set_option linter.unusedSimpArgs false
open Go.RowKit
open Go.Proofs.Ytlljmgphgmklcaa.Rowed Go.Proofs.Ytlljmgphgmklcaa.Turn Go.Proofs.Ytlljmgphgmklcaa.Aid Go.Proofs.Ytlljmgphgmklcaa.GoP Go.Proofs.Ytlljmgphgmklcaa.GoM

def P (c : Go.Proofs.Ytlljmgphgmklcaa.GoC.Tape) (n_1 : Int) : Option (Bool × Go.Proofs.Ytlljmgphgmklcaa.GoC.Tape) :=
  bind2 (Go.Proofs.Ytlljmgphgmklcaa.GsL1CurPick.P c n_1) fun (t_3 : Int) (t_3_tp : Go.Proofs.Ytlljmgphgmklcaa.GoC.Tape) =>
  letK (t_3 == 0) fun (t_4 : Bool) =>
  some (t_4, t_3_tp)

set_option maxRecDepth 100000 in
set_option maxHeartbeats 2000000 in
theorem C (c : Go.Proofs.Ytlljmgphgmklcaa.GoC.Tape) (n_1 : Int)   (g0 : Nat) (Ac0 : Option Addr) (cc0 : Nat) (bc0 : Nat) (w : World)   (K0 : Hid (Go.Proofs.Ytlljmgphgmklcaa.GoC.CurIs w bc0 g0 Ac0 cc0 c)) {r : Bool} {t_ : Go.Proofs.Ytlljmgphgmklcaa.GoC.Tape} (H : Hid (P c n_1 = some (r, t_))) :
    Calls Try.prog 122 #[.pointer (some ⟨g0, 0, none⟩), .int .i64 n_1] w (fun e w' => e = .returned (.bool r) ∧ Go.Proofs.Ytlljmgphgmklcaa.GoC.CurIs w' bc0 g0 Ac0 cc0 t_ ∧ w.grownBy w' (Value.slice (some ⟨g0, 0, none⟩) 1 1).ownBlock) := by
  have HB := Lib.hid (Aid.grown_refl w (Value.slice (some ⟨g0, 0, none⟩) 1 1).ownBlock)
  unfold P at H
  have L0 : bc0 ≤ w.heap.size := by have := Go.Proofs.Ytlljmgphgmklcaa.GoC.cur_lt K0.out; omega
  go_enter Try.func122, Try.ntmps122
  replace H := bind2_hid H
  obtain ⟨t_3, t_3_tp, qt_3, H⟩ := H
  go_wp2_with fail
  go_at_call 120
  refine (Go.Proofs.Ytlljmgphgmklcaa.GsL1CurPick.C (c) (n_1) (g0) (Ac0) (cc0) (bc0) _   K0 qt_3).mono ?_
  rintro e_t_3 wt_3 ⟨rfl, kt_3, gt_3⟩
  have Kt_3 := Lib.hid kt_3
  have Gt_3 : Hid (w.grownBy wt_3 (Value.slice (some ⟨g0, 0, none⟩) 1 1).ownBlock) := Lib.hid gt_3
  clear kt_3 gt_3
  have HBwt_3 := Lib.hid (Aid.grown_tr HB.out Gt_3.out)
  clear K0 Gt_3
  replace H := let_hid H
  obtain ⟨t_4, ht_4, H⟩ := H
  cases ret_hid H
  go_wp2_with fail
  go_ret
  exact ⟨rfl, Kt_3.out, HBwt_3.out⟩
end Go.Proofs.Ytlljmgphgmklcaa.GsL1CurOne

/- (*loop.example/g01062/spec.l1Cur).among as a plain function, and the contract of the program's: where the plain one has an answer, the program has it. Conditions: slices read as lists. -/
namespace Go.Proofs.Ytlljmgphgmklcaa.GsL1CurAmong
set_option linter.unusedVariables false
set_option linter.unusedSimpArgs false
open Go.RowKit
open Go.Proofs.Ytlljmgphgmklcaa.Rowed Go.Proofs.Ytlljmgphgmklcaa.Turn Go.Proofs.Ytlljmgphgmklcaa.Aid Go.Proofs.Ytlljmgphgmklcaa.GoP Go.Proofs.Ytlljmgphgmklcaa.GoM

def P (c : Go.Proofs.Ytlljmgphgmklcaa.GoC.Tape) (list : (List Int)) : Option (Int × Go.Proofs.Ytlljmgphgmklcaa.GoC.Tape) :=
  bind2 (Go.Proofs.Ytlljmgphgmklcaa.GsL1CurPick.P c (list.length : Int)) fun (t_5 : Int) (t_5_tp : Go.Proofs.Ytlljmgphgmklcaa.GoC.Tape) =>
  Option.bind (idx list t_5) fun (yt_6 : Int) =>
  some (yt_6, t_5_tp)

set_option maxRecDepth 100000 in
set_option maxHeartbeats 2000000 in
theorem C (c : Go.Proofs.Ytlljmgphgmklcaa.GoC.Tape) (list : (List Int)) (A1 : Option Addr) (c1 : Nat)  (g0 : Nat) (Ac0 : Option Addr) (cc0 : Nat) (bc0 : Nat) (w : World) (M1 : Hid (Cells w 1 A1 list.length (Go.Proofs.Ytlljmgphgmklcaa.HelpInt.iv list))) (N1 : Hid (list.length ≤ 9223372036854775807))  (K0 : Hid (Go.Proofs.Ytlljmgphgmklcaa.GoC.CurIs w bc0 g0 Ac0 cc0 c)) (X1 : Hid (0 < list.length → Apart A1 (some ⟨g0, 0, none⟩))) {r : Int} {t_ : Go.Proofs.Ytlljmgphgmklcaa.GoC.Tape} (H : Hid (P c list = some (r, t_))) :
    Calls Try.prog 119 #[.pointer (some ⟨g0, 0, none⟩), .slice A1 list.length c1] w (fun e w' => e = .returned (.int .i64 r) ∧ Go.Proofs.Ytlljmgphgmklcaa.GoC.CurIs w' bc0 g0 Ac0 cc0 t_ ∧ w.grownBy w' (Value.slice (some ⟨g0, 0, none⟩) 1 1).ownBlock) := by
  have HB := Lib.hid (Aid.grown_refl w (Value.slice (some ⟨g0, 0, none⟩) 1 1).ownBlock)
  unfold P at H
  have N1o := N1.out
  have L0 : bc0 ≤ w.heap.size := by have := Go.Proofs.Ytlljmgphgmklcaa.GoC.cur_lt K0.out; omega
  go_enter Try.func119, Try.ntmps119
  replace H := bind2_hid H
  obtain ⟨t_5, t_5_tp, qt_5, H⟩ := H
  go_wp2_with fail
  go_at_call 120
  refine (Go.Proofs.Ytlljmgphgmklcaa.GsL1CurPick.C (c) ((list.length : Int)) (g0) (Ac0) (cc0) (bc0) _   K0 qt_5).mono ?_
  rintro e_t_5 wt_5 ⟨rfl, kt_5, gt_5⟩
  have Kt_5 := Lib.hid kt_5
  have Gt_5 : Hid (w.grownBy wt_5 (Value.slice (some ⟨g0, 0, none⟩) 1 1).ownBlock) := Lib.hid gt_5
  clear kt_5 gt_5
  have HBwt_5 := Lib.hid (Aid.grown_tr HB.out Gt_5.out)
  clear K0 Gt_5
  replace H := idx_hid H
  obtain ⟨nt_6, yt_6, et_6, lt_6, gt_6, H⟩ := H
  subst et_6
  obtain ⟨ab_t_6, ao_t_6, zt_6, At_6, z_t_6, ct_6_0⟩ := Go.Proofs.Ytlljmgphgmklcaa.HelpInt.Ints.at_ M1.out lt_6
  obtain rfl := Option.some.inj (gt_6.out.symm.trans z_t_6)
  subst At_6
  have ltt_6 := cell_lt ct_6_0
  replace ct_6_0 := cell_other ct_6_0 HBwt_5.out (Go.Proofs.Ytlljmgphgmklcaa.GoC.apart_x X1.out (by omega))
  clear z_t_6
  have b0t_6 : (0 : Int) ≤ (nt_6 : Int) := by omega
  have b1t_6 : (nt_6 : Int) < ((list.length : Nat) : Int) := by omega
  have b2t_6 : ((nt_6 : Int)).toNat = nt_6 := by omega
  cases ret_hid H
  go_wp2_with fail
  go_ret
  exact ⟨rfl, Kt_5.out, HBwt_5.out⟩
end Go.Proofs.Ytlljmgphgmklcaa.GsL1CurAmong

/- (*loop.example/g01062/spec.l1Cur).rate as a plain function, and the contract of the program's: where the plain one has an answer, the program has it. Conditions: slices read as lists. -/
namespace Go.Proofs.Ytlljmgphgmklcaa.GsL1CurRate
set_option linter.unusedVariables false
set_option linter.unusedSimpArgs false
open Go.RowKit
open Go.Proofs.Ytlljmgphgmklcaa.Rowed Go.Proofs.Ytlljmgphgmklcaa.Turn Go.Proofs.Ytlljmgphgmklcaa.Aid Go.Proofs.Ytlljmgphgmklcaa.GoP Go.Proofs.Ytlljmgphgmklcaa.GoM

def P (c : Go.Proofs.Ytlljmgphgmklcaa.GoC.Tape) (zone : Int) (grams : Int) (from_3 : Int) : Option (Go.Proofs.Ytlljmgphgmklcaa.PRate.Rate × Go.Proofs.Ytlljmgphgmklcaa.GoC.Tape) :=
  letK ([5, 9, 9, 19]) fun (t_6 : (List Int)) =>
  bind2 (Go.Proofs.Ytlljmgphgmklcaa.GsL1CurAmong.P c t_6) fun (t_7 : Int) (t_7_tp : Go.Proofs.Ytlljmgphgmklcaa.GoC.Tape) =>
  letK (IntKind.i64.wrap (from_3 + t_7)) fun (t_8 : Int) =>
  letK ([3, 5, 5, 10, 12, 25, 9999]) fun (t_10 : (List Int)) =>
  bind2 (Go.Proofs.Ytlljmgphgmklcaa.GsL1CurAmong.P t_7_tp t_10) fun (t_11 : Int) (t_11_tp : Go.Proofs.Ytlljmgphgmklcaa.GoC.Tape) =>
  bind2 (Go.Proofs.Ytlljmgphgmklcaa.GsL1CurPick.P t_11_tp 64) fun (t_16 : Int) (t_16_tp : Go.Proofs.Ytlljmgphgmklcaa.GoC.Tape) =>
  letK (t_16 == 0) fun (t_17 : Bool) =>
  iteK t_17
  (letK (IntKind.i64.wrap (from_3 - 1)) fun (t_22 : Int) =>
  letK ([t_22, 4000, 4001]) fun (t_23 : (List Int)) =>
  bind2 (Go.Proofs.Ytlljmgphgmklcaa.GsL1CurAmong.P t_16_tp t_23) fun (t_24 : Int) (t_24_tp : Go.Proofs.Ytlljmgphgmklcaa.GoC.Tape) =>
  some ((Go.Proofs.Ytlljmgphgmklcaa.PRate.Rate.mk zone grams from_3 t_24 t_11), t_24_tp))
  (letK (t_16 == 1) fun (t_27 : Bool) =>
  iteK t_27
  (letK ([0, 10000]) fun (t_30 : (List Int)) =>
  bind2 (Go.Proofs.Ytlljmgphgmklcaa.GsL1CurAmong.P t_16_tp t_30) fun (t_31 : Int) (t_31_tp : Go.Proofs.Ytlljmgphgmklcaa.GoC.Tape) =>
  some ((Go.Proofs.Ytlljmgphgmklcaa.PRate.Rate.mk zone grams from_3 t_8 t_31), t_31_tp))
  (some ((Go.Proofs.Ytlljmgphgmklcaa.PRate.Rate.mk zone grams from_3 t_8 t_11), t_16_tp)))

set_option maxRecDepth 100000 in
set_option maxHeartbeats 2000000 in
theorem C (c : Go.Proofs.Ytlljmgphgmklcaa.GoC.Tape) (zone : Int) (grams : Int) (from_3 : Int)   (g0 : Nat) (Ac0 : Option Addr) (cc0 : Nat) (bc0 : Nat) (w : World)   (K0 : Hid (Go.Proofs.Ytlljmgphgmklcaa.GoC.CurIs w bc0 g0 Ac0 cc0 c)) {r : Go.Proofs.Ytlljmgphgmklcaa.PRate.Rate} {t_ : Go.Proofs.Ytlljmgphgmklcaa.GoC.Tape} (H : Hid (P c zone grams from_3 = some (r, t_))) :
    Calls Try.prog 156 #[.pointer (some ⟨g0, 0, none⟩), .int .i64 zone, .int .i64 grams, .int .i64 from_3] w (fun e w' => e = .returned ((Go.Proofs.Ytlljmgphgmklcaa.PRate.Rate.val r)) ∧ Go.Proofs.Ytlljmgphgmklcaa.GoC.CurIs w' bc0 g0 Ac0 cc0 t_ ∧ w.grownBy w' (Value.slice (some ⟨g0, 0, none⟩) 1 1).ownBlock) := by
  have HB := Lib.hid (Aid.grown_refl w (Value.slice (some ⟨g0, 0, none⟩) 1 1).ownBlock)
  unfold P at H
  have L0 : bc0 ≤ w.heap.size := by have := Go.Proofs.Ytlljmgphgmklcaa.GoC.cur_lt K0.out; omega
  go_enter Try.func156, Try.ntmps156
  obtain ⟨w_t_0, hw_t_0⟩ : ∃ x, w.alloc (.cells #[.int .i64 0, .int .i64 0, .int .i64 0, .int .i64 0, .int .i64 0] 104) = x := ⟨_, rfl⟩
  have bw_t_0 : Below w.heap.size w w_t_0 := by rw [← hw_t_0]; exact (Below.refl _ _).alloc (Nat.le_refl _) _
  have Dt_0_c0 := Lib.hid (Go.Proofs.Ytlljmgphgmklcaa.GoC.apart_cur K0.out)
  have HBw_t_0 := Lib.hid (grown_below HB.out bw_t_0)
  replace K0 := Lib.hid (Go.Proofs.Ytlljmgphgmklcaa.GoC.cur_below K0.out bw_t_0)
  clear bw_t_0
  have kt_0_0 : w_t_0.cell? ⟨w.heap.size, 0, none⟩ = some (.int .i64 0) := by rw [← hw_t_0]; exact box_new _ _ _ 0 _ rfl
  have kt_0_1 : w_t_0.cell? ⟨w.heap.size, 1, none⟩ = some (.int .i64 0) := by rw [← hw_t_0]; exact box_new _ _ _ 1 _ rfl
  have kt_0_2 : w_t_0.cell? ⟨w.heap.size, 2, none⟩ = some (.int .i64 0) := by rw [← hw_t_0]; exact box_new _ _ _ 2 _ rfl
  have kt_0_3 : w_t_0.cell? ⟨w.heap.size, 3, none⟩ = some (.int .i64 0) := by rw [← hw_t_0]; exact box_new _ _ _ 3 _ rfl
  have kt_0_4 : w_t_0.cell? ⟨w.heap.size, 4, none⟩ = some (.int .i64 0) := by rw [← hw_t_0]; exact box_new _ _ _ 4 _ rfl
  have Ot_0 : Hid (w_t_0.ownsRow w.heap.size 104 5 (.slice (some ⟨w.heap.size, 0, none⟩) 1 1) 1 [.int .i64 0, .int .i64 0, .int .i64 0, .int .i64 0, .int .i64 0]) := Lib.hid (by rw [← hw_t_0]; exact own_laid (n := 1) HB.out.size rfl rfl (by unfold maxLen; omega))
  replace H := let_hid H
  obtain ⟨t_6, ht_6, H⟩ := H
  obtain ⟨w_t_6, hw_t_6⟩ : ∃ x, w_t_0.alloc (.cells #[.int .i64 5, .int .i64 9, .int .i64 9, .int .i64 19] 3) = x := ⟨_, rfl⟩
  have bw_t_6 : Below w_t_0.heap.size w_t_0 w_t_6 := by rw [← hw_t_6]; exact (Below.refl _ _).alloc (Nat.le_refl _) _
  have hs_t_6 := HBw_t_0.out.size
  have nt_6 : t_6.length = 4 := by rw [← ht_6]; rfl
  have Ot_6 : Hid (w_t_6.ownsRow w.heap.size 3 1 (.slice (some ⟨w_t_0.heap.size, 0, none⟩) 4 4) 4 (Go.Proofs.Ytlljmgphgmklcaa.HelpInt.iv t_6)) := by
    rw [← hw_t_6, ← ht_6]
    have e_ : ([.int .i64 5, .int .i64 9, .int .i64 9, .int .i64 19] : List Value) = (Go.Proofs.Ytlljmgphgmklcaa.HelpInt.iv ([5, 9, 9, 19] : List Int)) := rfl
    exact Lib.hid (own_laid (n := 4) hs_t_6 e_ rfl (by unfold maxLen; omega))
  clear hs_t_6
  have hht_6 := Lib.hid ht_6
  clear ht_6
  replace nt_6 := Lib.hid nt_6
  have Dt_6_c0 := Lib.hid (Go.Proofs.Ytlljmgphgmklcaa.GoC.apart_cur K0.out)
  have Dt_6_t_0 := Lib.hid (apart_box kt_0_0)
  have HBw_t_6 := Lib.hid (grown_below HBw_t_0.out bw_t_6)
  have kt_0_0__1 := cell_below bw_t_6 kt_0_0
  have kt_0_1__2 := cell_below bw_t_6 kt_0_1
  have kt_0_2__3 := cell_below bw_t_6 kt_0_2
  have kt_0_3__4 := cell_below bw_t_6 kt_0_3
  have kt_0_4__5 := cell_below bw_t_6 kt_0_4
  replace K0 := Lib.hid (Go.Proofs.Ytlljmgphgmklcaa.GoC.cur_below K0.out bw_t_6)
  replace Ot_0 := Lib.hid (own_below Ot_0.out bw_t_6)
  clear bw_t_6
  replace H := bind2_hid H
  obtain ⟨t_7, t_7_tp, qt_7, H⟩ := H
  go_wp2_with fail
  clear kt_0_0 kt_0_1 kt_0_2 kt_0_3 kt_0_4
  have hc_ := nt_6.out
  have hv_ : (Value.slice (some ⟨w_t_0.heap.size, 0, none⟩) 4 4 : Value) = Value.slice (some ⟨w_t_0.heap.size, 0, none⟩) t_6.length 4 := by rw [hc_]
  try rw [hv_]
  replace Ot_6 := Lib.hid (own_len hc_ Ot_6.out)
  clear hc_ hv_
  go_wp2_with fail
  go_at_call 119
  refine (Go.Proofs.Ytlljmgphgmklcaa.GsL1CurAmong.C (c) (t_6) (some ⟨w_t_0.heap.size, 0, none⟩) 4 (g0) (Ac0) (cc0) (bc0) _   (Lib.hid (own_cells Ot_6.out)) (Lib.hid (own_max Ot_6.out)) K0 (Lib.hid (fun _ => Dt_6_c0.out)) qt_7).mono ?_
  rintro e_t_7 wt_7 ⟨rfl, kt_7, gt_7⟩
  have Kt_7 := Lib.hid kt_7
  have Gt_7 : Hid (w_t_6.grownBy wt_7 (Value.slice (some ⟨g0, 0, none⟩) 1 1).ownBlock) := Lib.hid gt_7
  clear kt_7 gt_7
  have HBwt_7 := Lib.hid (Aid.grown_tr HBw_t_6.out Gt_7.out)
  replace kt_0_0__1 := cell_other kt_0_0__1 Gt_7.out (Apart.symm Dt_0_c0.out)
  replace kt_0_1__2 := cell_other kt_0_1__2 Gt_7.out (Apart.symm Dt_0_c0.out)
  replace kt_0_2__3 := cell_other kt_0_2__3 Gt_7.out (Apart.symm Dt_0_c0.out)
  replace kt_0_3__4 := cell_other kt_0_3__4 Gt_7.out (Apart.symm Dt_0_c0.out)
  replace kt_0_4__5 := cell_other kt_0_4__5 Gt_7.out (Apart.symm Dt_0_c0.out)
  replace Ot_0 := Lib.hid (own_other Ot_0.out Gt_7.out (Apart.symm Dt_0_c0.out))
  replace Ot_6 := Lib.hid (own_other Ot_6.out Gt_7.out (Apart.symm Dt_6_c0.out))
  clear K0 Gt_7
  replace H := let_hid H
  obtain ⟨t_8, ht_8, H⟩ := H
  replace H := let_hid H
  obtain ⟨t_10, ht_10, H⟩ := H
  obtain ⟨w_t_10, hw_t_10⟩ : ∃ x, wt_7.alloc (.cells #[.int .i64 3, .int .i64 5, .int .i64 5, .int .i64 10, .int .i64 12, .int .i64 25, .int .i64 9999] 3) = x := ⟨_, rfl⟩
  have bw_t_10 : Below wt_7.heap.size wt_7 w_t_10 := by rw [← hw_t_10]; exact (Below.refl _ _).alloc (Nat.le_refl _) _
  have hs_t_10 := HBwt_7.out.size
  have nt_10 : t_10.length = 7 := by rw [← ht_10]; rfl
  have Ot_10 : Hid (w_t_10.ownsRow w.heap.size 3 1 (.slice (some ⟨wt_7.heap.size, 0, none⟩) 7 7) 7 (Go.Proofs.Ytlljmgphgmklcaa.HelpInt.iv t_10)) := by
    rw [← hw_t_10, ← ht_10]
    have e_ : ([.int .i64 3, .int .i64 5, .int .i64 5, .int .i64 10, .int .i64 12, .int .i64 25, .int .i64 9999] : List Value) = (Go.Proofs.Ytlljmgphgmklcaa.HelpInt.iv ([3, 5, 5, 10, 12, 25, 9999] : List Int)) := rfl
    exact Lib.hid (own_laid (n := 7) hs_t_10 e_ rfl (by unfold maxLen; omega))
  clear hs_t_10
  have hht_10 := Lib.hid ht_10
  clear ht_10
  replace nt_10 := Lib.hid nt_10
  have Dt_10_t_6 := Lib.hid (apart_fresh Ot_6.out)
  have Dt_10_c0 := Lib.hid (Go.Proofs.Ytlljmgphgmklcaa.GoC.apart_cur Kt_7.out)
  have Dt_10_t_0 := Lib.hid (apart_box kt_0_0__1)
  have HBw_t_10 := Lib.hid (grown_below HBwt_7.out bw_t_10)
  have kt_0_0__6 := cell_below bw_t_10 kt_0_0__1
  have kt_0_1__7 := cell_below bw_t_10 kt_0_1__2
  have kt_0_2__8 := cell_below bw_t_10 kt_0_2__3
  have kt_0_3__9 := cell_below bw_t_10 kt_0_3__4
  have kt_0_4__10 := cell_below bw_t_10 kt_0_4__5
  replace Ot_6 := Lib.hid (own_below Ot_6.out bw_t_10)
  replace Kt_7 := Lib.hid (Go.Proofs.Ytlljmgphgmklcaa.GoC.cur_below Kt_7.out bw_t_10)
  replace Ot_0 := Lib.hid (own_below Ot_0.out bw_t_10)
  clear bw_t_10
  replace H := bind2_hid H
  obtain ⟨t_11, t_11_tp, qt_11, H⟩ := H
  go_wp2_with fail
  clear kt_0_0__1 kt_0_1__2 kt_0_2__3 kt_0_3__4 kt_0_4__5
  have hc_ := nt_10.out
  have hv_ : (Value.slice (some ⟨wt_7.heap.size, 0, none⟩) 7 7 : Value) = Value.slice (some ⟨wt_7.heap.size, 0, none⟩) t_10.length 7 := by rw [hc_]
  try rw [hv_]
  replace Ot_10 := Lib.hid (own_len hc_ Ot_10.out)
  clear hc_ hv_
  go_wp2_with fail
  go_at_call 119
  refine (Go.Proofs.Ytlljmgphgmklcaa.GsL1CurAmong.C (t_7_tp) (t_10) (some ⟨wt_7.heap.size, 0, none⟩) 7 (g0) (Ac0) (cc0) (bc0) _   (Lib.hid (own_cells Ot_10.out)) (Lib.hid (own_max Ot_10.out)) Kt_7 (Lib.hid (fun _ => Dt_10_c0.out)) qt_11).mono ?_
  rintro e_t_11 wt_11 ⟨rfl, kt_11, gt_11⟩
  have Kt_11 := Lib.hid kt_11
  have Gt_11 : Hid (w_t_10.grownBy wt_11 (Value.slice (some ⟨g0, 0, none⟩) 1 1).ownBlock) := Lib.hid gt_11
  clear kt_11 gt_11
  have HBwt_11 := Lib.hid (Aid.grown_tr HBw_t_10.out Gt_11.out)
  replace kt_0_0__6 := cell_other kt_0_0__6 Gt_11.out (Apart.symm Dt_0_c0.out)
  replace kt_0_1__7 := cell_other kt_0_1__7 Gt_11.out (Apart.symm Dt_0_c0.out)
  replace kt_0_2__8 := cell_other kt_0_2__8 Gt_11.out (Apart.symm Dt_0_c0.out)
  replace kt_0_3__9 := cell_other kt_0_3__9 Gt_11.out (Apart.symm Dt_0_c0.out)
  replace kt_0_4__10 := cell_other kt_0_4__10 Gt_11.out (Apart.symm Dt_0_c0.out)
  replace Ot_0 := Lib.hid (own_other Ot_0.out Gt_11.out (Apart.symm Dt_0_c0.out))
  replace Ot_6 := Lib.hid (own_other Ot_6.out Gt_11.out (Apart.symm Dt_6_c0.out))
  replace Ot_10 := Lib.hid (own_other Ot_10.out Gt_11.out (Apart.symm Dt_10_c0.out))
  clear Kt_7 Gt_11
  obtain ⟨w_r_13, hw_r_13⟩ : ∃ x, wt_11.alloc (.cells #[.int .i64 zone, .int .i64 grams, .int .i64 from_3, .int .i64 t_8, .int .i64 t_11] 104) = x := ⟨_, rfl⟩
  have bw_r_13 : Below wt_11.heap.size wt_11 w_r_13 := by rw [← hw_r_13]; exact (Below.refl _ _).alloc (Nat.le_refl _) _
  have Dr_13_t_6 := Lib.hid (apart_fresh Ot_6.out)
  have Dr_13_t_10 := Lib.hid (apart_fresh Ot_10.out)
  have Dr_13_c0 := Lib.hid (Go.Proofs.Ytlljmgphgmklcaa.GoC.apart_cur Kt_11.out)
  have Dr_13_t_0 := Lib.hid (apart_box kt_0_0__6)
  have HBw_r_13 := Lib.hid (grown_below HBwt_11.out bw_r_13)
  have kt_0_0__11 := cell_below bw_r_13 kt_0_0__6
  have kt_0_1__12 := cell_below bw_r_13 kt_0_1__7
  have kt_0_2__13 := cell_below bw_r_13 kt_0_2__8
  have kt_0_3__14 := cell_below bw_r_13 kt_0_3__9
  have kt_0_4__15 := cell_below bw_r_13 kt_0_4__10
  replace Ot_6 := Lib.hid (own_below Ot_6.out bw_r_13)
  replace Ot_10 := Lib.hid (own_below Ot_10.out bw_r_13)
  replace Kt_11 := Lib.hid (Go.Proofs.Ytlljmgphgmklcaa.GoC.cur_below Kt_11.out bw_r_13)
  replace Ot_0 := Lib.hid (own_below Ot_0.out bw_r_13)
  clear bw_r_13
  have kr_13_0 : w_r_13.cell? ⟨wt_11.heap.size, 0, none⟩ = some (.int .i64 zone) := by rw [← hw_r_13]; exact box_new _ _ _ 0 _ rfl
  have kr_13_1 : w_r_13.cell? ⟨wt_11.heap.size, 1, none⟩ = some (.int .i64 grams) := by rw [← hw_r_13]; exact box_new _ _ _ 1 _ rfl
  have kr_13_2 : w_r_13.cell? ⟨wt_11.heap.size, 2, none⟩ = some (.int .i64 from_3) := by rw [← hw_r_13]; exact box_new _ _ _ 2 _ rfl
  have kr_13_3 : w_r_13.cell? ⟨wt_11.heap.size, 3, none⟩ = some (.int .i64 t_8) := by rw [← hw_r_13]; exact box_new _ _ _ 3 _ rfl
  have kr_13_4 : w_r_13.cell? ⟨wt_11.heap.size, 4, none⟩ = some (.int .i64 t_11) := by rw [← hw_r_13]; exact box_new _ _ _ 4 _ rfl
  have Or_13 : Hid (w_r_13.ownsRow w.heap.size 104 5 (.slice (some ⟨wt_11.heap.size, 0, none⟩) 1 1) 1 [.int .i64 zone, .int .i64 grams, .int .i64 from_3, .int .i64 t_8, .int .i64 t_11]) := Lib.hid (by rw [← hw_r_13]; exact own_laid (n := 1) HBwt_11.out.size rfl rfl (by unfold maxLen; omega))
  replace H := bind2_hid H
  obtain ⟨t_16, t_16_tp, qt_16, H⟩ := H
  go_wp2_with fail
  clear kt_0_0__6 kt_0_1__7 kt_0_2__8 kt_0_3__9 kt_0_4__10
  go_at_call 120
  refine (Go.Proofs.Ytlljmgphgmklcaa.GsL1CurPick.C (t_11_tp) (64) (g0) (Ac0) (cc0) (bc0) _   Kt_11 qt_16).mono ?_
  rintro e_t_16 wt_16 ⟨rfl, kt_16, gt_16⟩
  have Kt_16 := Lib.hid kt_16
  have Gt_16 : Hid (w_r_13.grownBy wt_16 (Value.slice (some ⟨g0, 0, none⟩) 1 1).ownBlock) := Lib.hid gt_16
  clear kt_16 gt_16
  have HBwt_16 := Lib.hid (Aid.grown_tr HBw_r_13.out Gt_16.out)
  replace kt_0_0__11 := cell_other kt_0_0__11 Gt_16.out (Apart.symm Dt_0_c0.out)
  replace kt_0_1__12 := cell_other kt_0_1__12 Gt_16.out (Apart.symm Dt_0_c0.out)
  replace kt_0_2__13 := cell_other kt_0_2__13 Gt_16.out (Apart.symm Dt_0_c0.out)
  replace kt_0_3__14 := cell_other kt_0_3__14 Gt_16.out (Apart.symm Dt_0_c0.out)
  replace kt_0_4__15 := cell_other kt_0_4__15 Gt_16.out (Apart.symm Dt_0_c0.out)
  replace kr_13_0 := cell_other kr_13_0 Gt_16.out (Apart.symm Dr_13_c0.out)
  replace kr_13_1 := cell_other kr_13_1 Gt_16.out (Apart.symm Dr_13_c0.out)
  replace kr_13_2 := cell_other kr_13_2 Gt_16.out (Apart.symm Dr_13_c0.out)
  replace kr_13_3 := cell_other kr_13_3 Gt_16.out (Apart.symm Dr_13_c0.out)
  replace kr_13_4 := cell_other kr_13_4 Gt_16.out (Apart.symm Dr_13_c0.out)
  replace Ot_0 := Lib.hid (own_other Ot_0.out Gt_16.out (Apart.symm Dt_0_c0.out))
  replace Or_13 := Lib.hid (own_other Or_13.out Gt_16.out (Apart.symm Dr_13_c0.out))
  replace Ot_6 := Lib.hid (own_other Ot_6.out Gt_16.out (Apart.symm Dt_6_c0.out))
  replace Ot_10 := Lib.hid (own_other Ot_10.out Gt_16.out (Apart.symm Dt_10_c0.out))
  clear Kt_11 Gt_16
  replace H := let_hid H
  obtain ⟨t_17, ht_17, H⟩ := H
  cases t_17 with
  | false =>
    replace H := ite_f H
    replace H := let_hid H
    obtain ⟨t_27, ht_27, H⟩ := H
    cases t_27 with
    | false =>
      replace H := ite_f H
      obtain ⟨wb35_35, hwb35_35⟩ : ∃ x, (((((wt_16).setCell ⟨w.heap.size, 0, none⟩ (.int .i64 zone)).setCell ⟨w.heap.size, 1, none⟩ (.int .i64 grams)).setCell ⟨w.heap.size, 2, none⟩ (.int .i64 from_3)).setCell ⟨w.heap.size, 3, none⟩ (.int .i64 t_8)).setCell ⟨w.heap.size, 4, none⟩ (.int .i64 t_11) = x := ⟨_, rfl⟩
      have z0b35_35 := Ot_0.out.frozenAt 0
      have z1b35_35 := Ot_0.out.frozenAt 1
      have z2b35_35 := Ot_0.out.frozenAt 2
      have z3b35_35 := Ot_0.out.frozenAt 3
      have z4b35_35 := Ot_0.out.frozenAt 4
      have Sb35_35 := Lib.hid (own_stores [(0, .int .i64 zone), (1, .int .i64 grams), (2, .int .i64 from_3), (3, .int .i64 t_8), (4, .int .i64 t_11)] Ot_0.out)
      have Pb35_35 : Hid (wb35_35.ownsRow w.heap.size 104 5 (.slice (some ⟨w.heap.size, 0, none⟩) 1 1) 1 [.int .i64 zone, .int .i64 grams, .int .i64 from_3, .int .i64 t_8, .int .i64 t_11]) := Lib.hid (by rw [← hwb35_35]; exact Sb35_35.out.1)
      have Gb35_35 : Hid (wt_16.grownBy wb35_35 (Value.slice (some ⟨w.heap.size, 0, none⟩) 1 1).ownBlock) := Lib.hid (by rw [← hwb35_35]; exact Sb35_35.out.2)
      have HBwb35_35 := Lib.hid (Go.Proofs.Ytlljmgphgmklcaa.GoC.grown_new HBwt_16.out Gb35_35.out (Go.Proofs.Ytlljmgphgmklcaa.GoC.own_ge Ot_0.out))
      clear Sb35_35
      have kr_13_0__16 := cell_other kr_13_0 Gb35_35.out (Apart.symm Dr_13_t_0.out)
      have kr_13_1__17 := cell_other kr_13_1 Gb35_35.out (Apart.symm Dr_13_t_0.out)
      have kr_13_2__18 := cell_other kr_13_2 Gb35_35.out (Apart.symm Dr_13_t_0.out)
      have kr_13_3__19 := cell_other kr_13_3 Gb35_35.out (Apart.symm Dr_13_t_0.out)
      have kr_13_4__20 := cell_other kr_13_4 Gb35_35.out (Apart.symm Dr_13_t_0.out)
      replace Or_13 := Lib.hid (own_other Or_13.out Gb35_35.out (Apart.symm Dr_13_t_0.out))
      replace Ot_6 := Lib.hid (own_other Ot_6.out Gb35_35.out (Apart.symm Dt_6_t_0.out))
      replace Ot_10 := Lib.hid (own_other Ot_10.out Gb35_35.out (Apart.symm Dt_10_t_0.out))
      replace Kt_16 := Lib.hid (Go.Proofs.Ytlljmgphgmklcaa.GoC.cur_otherO Kt_16.out Gb35_35.out Dt_0_c0.out L0 Ot_0.out)
      clear Ot_0 Gb35_35
      have kt_0_0__21 : wb35_35.cell? ⟨w.heap.size, 0, none⟩ = some (.int .i64 zone) := Pb35_35.out.cells rfl 0 _ rfl
      have kt_0_1__22 : wb35_35.cell? ⟨w.heap.size, 1, none⟩ = some (.int .i64 grams) := Pb35_35.out.cells rfl 1 _ rfl
      have kt_0_2__23 : wb35_35.cell? ⟨w.heap.size, 2, none⟩ = some (.int .i64 from_3) := Pb35_35.out.cells rfl 2 _ rfl
      have kt_0_3__24 : wb35_35.cell? ⟨w.heap.size, 3, none⟩ = some (.int .i64 t_8) := Pb35_35.out.cells rfl 3 _ rfl
      have kt_0_4__25 : wb35_35.cell? ⟨w.heap.size, 4, none⟩ = some (.int .i64 t_11) := Pb35_35.out.cells rfl 4 _ rfl
      cases ret_hid H
      go_wp2_with fail
      (try simp only [Exit.inBlock, Exit.then])
      refine bodyPost_ret (v := .agg #[.int .i64 zone, .int .i64 grams, .int .i64 from_3, .int .i64 t_8, .int .i64 t_11]) ?hr_ ?hd_ ?_
      case hd_ => rfl
      case hr_ => simp [results, Try.results156, kt_0_0__21, kt_0_1__22, kt_0_2__23, kt_0_3__24, kt_0_4__25, go_sem]
      exact ⟨rfl, Kt_16.out, HBwb35_35.out⟩
    | true =>
      replace H := ite_t H
      replace H := let_hid H
      obtain ⟨t_30, ht_30, H⟩ := H
      obtain ⟨w_t_30, hw_t_30⟩ : ∃ x, wt_16.alloc (.cells #[.int .i64 0, .int .i64 10000] 3) = x := ⟨_, rfl⟩
      have bw_t_30 : Below wt_16.heap.size wt_16 w_t_30 := by rw [← hw_t_30]; exact (Below.refl _ _).alloc (Nat.le_refl _) _
      have hs_t_30 := HBwt_16.out.size
      have nt_30 : t_30.length = 2 := by rw [← ht_30]; rfl
      have Ot_30 : Hid (w_t_30.ownsRow w.heap.size 3 1 (.slice (some ⟨wt_16.heap.size, 0, none⟩) 2 2) 2 (Go.Proofs.Ytlljmgphgmklcaa.HelpInt.iv t_30)) := by
        rw [← hw_t_30, ← ht_30]
        have e_ : ([.int .i64 0, .int .i64 10000] : List Value) = (Go.Proofs.Ytlljmgphgmklcaa.HelpInt.iv ([0, 10000] : List Int)) := rfl
        exact Lib.hid (own_laid (n := 2) hs_t_30 e_ rfl (by unfold maxLen; omega))
      clear hs_t_30
      have hht_30 := Lib.hid ht_30
      clear ht_30
      replace nt_30 := Lib.hid nt_30
      have Dt_30_t_6 := Lib.hid (apart_fresh Ot_6.out)
      have Dt_30_t_10 := Lib.hid (apart_fresh Ot_10.out)
      have Dt_30_c0 := Lib.hid (Go.Proofs.Ytlljmgphgmklcaa.GoC.apart_cur Kt_16.out)
      have Dt_30_t_0 := Lib.hid (apart_box kt_0_0__11)
      have Dt_30_r_13 := Lib.hid (apart_box kr_13_0)
      have HBw_t_30 := Lib.hid (grown_below HBwt_16.out bw_t_30)
      have kt_0_0__26 := cell_below bw_t_30 kt_0_0__11
      have kt_0_1__27 := cell_below bw_t_30 kt_0_1__12
      have kt_0_2__28 := cell_below bw_t_30 kt_0_2__13
      have kt_0_3__29 := cell_below bw_t_30 kt_0_3__14
      have kt_0_4__30 := cell_below bw_t_30 kt_0_4__15
      have kr_13_0__31 := cell_below bw_t_30 kr_13_0
      have kr_13_1__32 := cell_below bw_t_30 kr_13_1
      have kr_13_2__33 := cell_below bw_t_30 kr_13_2
      have kr_13_3__34 := cell_below bw_t_30 kr_13_3
      have kr_13_4__35 := cell_below bw_t_30 kr_13_4
      replace Ot_6 := Lib.hid (own_below Ot_6.out bw_t_30)
      replace Ot_10 := Lib.hid (own_below Ot_10.out bw_t_30)
      replace Kt_16 := Lib.hid (Go.Proofs.Ytlljmgphgmklcaa.GoC.cur_below Kt_16.out bw_t_30)
      replace Ot_0 := Lib.hid (own_below Ot_0.out bw_t_30)
      replace Or_13 := Lib.hid (own_below Or_13.out bw_t_30)
      clear bw_t_30
      replace H := bind2_hid H
      obtain ⟨t_31, t_31_tp, qt_31, H⟩ := H
      go_wp2_with fail
      clear kt_0_0__11 kt_0_1__12 kt_0_2__13 kt_0_3__14 kt_0_4__15 kr_13_0 kr_13_1 kr_13_2 kr_13_3 kr_13_4
      have hc_ := nt_30.out
      have hv_ : (Value.slice (some ⟨wt_16.heap.size, 0, none⟩) 2 2 : Value) = Value.slice (some ⟨wt_16.heap.size, 0, none⟩) t_30.length 2 := by rw [hc_]
      try rw [hv_]
      replace Ot_30 := Lib.hid (own_len hc_ Ot_30.out)
      clear hc_ hv_
      go_wp2_with fail
      go_at_call 119
      refine (Go.Proofs.Ytlljmgphgmklcaa.GsL1CurAmong.C (t_16_tp) (t_30) (some ⟨wt_16.heap.size, 0, none⟩) 2 (g0) (Ac0) (cc0) (bc0) _   (Lib.hid (own_cells Ot_30.out)) (Lib.hid (own_max Ot_30.out)) Kt_16 (Lib.hid (fun _ => Dt_30_c0.out)) qt_31).mono ?_
      rintro e_t_31 wt_31 ⟨rfl, kt_31, gt_31⟩
      have Kt_31 := Lib.hid kt_31
      have Gt_31 : Hid (w_t_30.grownBy wt_31 (Value.slice (some ⟨g0, 0, none⟩) 1 1).ownBlock) := Lib.hid gt_31
      clear kt_31 gt_31
      have HBwt_31 := Lib.hid (Aid.grown_tr HBw_t_30.out Gt_31.out)
      replace kt_0_0__26 := cell_other kt_0_0__26 Gt_31.out (Apart.symm Dt_0_c0.out)
      replace kt_0_1__27 := cell_other kt_0_1__27 Gt_31.out (Apart.symm Dt_0_c0.out)
      replace kt_0_2__28 := cell_other kt_0_2__28 Gt_31.out (Apart.symm Dt_0_c0.out)
      replace kt_0_3__29 := cell_other kt_0_3__29 Gt_31.out (Apart.symm Dt_0_c0.out)
      replace kt_0_4__30 := cell_other kt_0_4__30 Gt_31.out (Apart.symm Dt_0_c0.out)
      replace kr_13_0__31 := cell_other kr_13_0__31 Gt_31.out (Apart.symm Dr_13_c0.out)
      replace kr_13_1__32 := cell_other kr_13_1__32 Gt_31.out (Apart.symm Dr_13_c0.out)
      replace kr_13_2__33 := cell_other kr_13_2__33 Gt_31.out (Apart.symm Dr_13_c0.out)
      replace kr_13_3__34 := cell_other kr_13_3__34 Gt_31.out (Apart.symm Dr_13_c0.out)
      replace kr_13_4__35 := cell_other kr_13_4__35 Gt_31.out (Apart.symm Dr_13_c0.out)
      replace Ot_0 := Lib.hid (own_other Ot_0.out Gt_31.out (Apart.symm Dt_0_c0.out))
      replace Or_13 := Lib.hid (own_other Or_13.out Gt_31.out (Apart.symm Dr_13_c0.out))
      replace Ot_6 := Lib.hid (own_other Ot_6.out Gt_31.out (Apart.symm Dt_6_c0.out))
      replace Ot_10 := Lib.hid (own_other Ot_10.out Gt_31.out (Apart.symm Dt_10_c0.out))
      replace Ot_30 := Lib.hid (own_other Ot_30.out Gt_31.out (Apart.symm Dt_30_c0.out))
      clear Kt_16 Gt_31
      obtain ⟨wb33_33, hwb33_33⟩ : ∃ x, (wt_31).setCell ⟨wt_11.heap.size, 4, none⟩ (.int .i64 t_31) = x := ⟨_, rfl⟩
      have z0b33_33 := Or_13.out.frozenAt 4
      have Sb33_33 := Lib.hid (own_stores [(4, .int .i64 t_31)] Or_13.out)
      have Pb33_33 : Hid (wb33_33.ownsRow w.heap.size 104 5 (.slice (some ⟨wt_11.heap.size, 0, none⟩) 1 1) 1 [.int .i64 zone, .int .i64 grams, .int .i64 from_3, .int .i64 t_8, .int .i64 t_31]) := Lib.hid (by rw [← hwb33_33]; exact Sb33_33.out.1)
      have Gb33_33 : Hid (wt_31.grownBy wb33_33 (Value.slice (some ⟨wt_11.heap.size, 0, none⟩) 1 1).ownBlock) := Lib.hid (by rw [← hwb33_33]; exact Sb33_33.out.2)
      have HBwb33_33 := Lib.hid (Go.Proofs.Ytlljmgphgmklcaa.GoC.grown_new HBwt_31.out Gb33_33.out (Go.Proofs.Ytlljmgphgmklcaa.GoC.own_ge Or_13.out))
      clear Sb33_33
      have kt_0_0__36 := cell_other kt_0_0__26 Gb33_33.out Dr_13_t_0.out
      have kt_0_1__37 := cell_other kt_0_1__27 Gb33_33.out Dr_13_t_0.out
      have kt_0_2__38 := cell_other kt_0_2__28 Gb33_33.out Dr_13_t_0.out
      have kt_0_3__39 := cell_other kt_0_3__29 Gb33_33.out Dr_13_t_0.out
      have kt_0_4__40 := cell_other kt_0_4__30 Gb33_33.out Dr_13_t_0.out
      replace Ot_0 := Lib.hid (own_other Ot_0.out Gb33_33.out Dr_13_t_0.out)
      replace Ot_6 := Lib.hid (own_other Ot_6.out Gb33_33.out Dr_13_t_6.out)
      replace Ot_10 := Lib.hid (own_other Ot_10.out Gb33_33.out Dr_13_t_10.out)
      replace Ot_30 := Lib.hid (own_other Ot_30.out Gb33_33.out (Apart.symm Dt_30_r_13.out))
      replace Kt_31 := Lib.hid (Go.Proofs.Ytlljmgphgmklcaa.GoC.cur_otherO Kt_31.out Gb33_33.out Dr_13_c0.out L0 Or_13.out)
      clear Or_13 Gb33_33
      have kr_13_0__41 : wb33_33.cell? ⟨wt_11.heap.size, 0, none⟩ = some (.int .i64 zone) := Pb33_33.out.cells rfl 0 _ rfl
      have kr_13_1__42 : wb33_33.cell? ⟨wt_11.heap.size, 1, none⟩ = some (.int .i64 grams) := Pb33_33.out.cells rfl 1 _ rfl
      have kr_13_2__43 : wb33_33.cell? ⟨wt_11.heap.size, 2, none⟩ = some (.int .i64 from_3) := Pb33_33.out.cells rfl 2 _ rfl
      have kr_13_3__44 : wb33_33.cell? ⟨wt_11.heap.size, 3, none⟩ = some (.int .i64 t_8) := Pb33_33.out.cells rfl 3 _ rfl
      have kr_13_4__45 : wb33_33.cell? ⟨wt_11.heap.size, 4, none⟩ = some (.int .i64 t_31) := Pb33_33.out.cells rfl 4 _ rfl
      obtain ⟨wb35_35, hwb35_35⟩ : ∃ x, (((((wb33_33).setCell ⟨w.heap.size, 0, none⟩ (.int .i64 zone)).setCell ⟨w.heap.size, 1, none⟩ (.int .i64 grams)).setCell ⟨w.heap.size, 2, none⟩ (.int .i64 from_3)).setCell ⟨w.heap.size, 3, none⟩ (.int .i64 t_8)).setCell ⟨w.heap.size, 4, none⟩ (.int .i64 t_31) = x := ⟨_, rfl⟩
      have z0b35_35 := Ot_0.out.frozenAt 0
      have z1b35_35 := Ot_0.out.frozenAt 1
      have z2b35_35 := Ot_0.out.frozenAt 2
      have z3b35_35 := Ot_0.out.frozenAt 3
      have z4b35_35 := Ot_0.out.frozenAt 4
      have Sb35_35 := Lib.hid (own_stores [(0, .int .i64 zone), (1, .int .i64 grams), (2, .int .i64 from_3), (3, .int .i64 t_8), (4, .int .i64 t_31)] Ot_0.out)
      have Pb35_35 : Hid (wb35_35.ownsRow w.heap.size 104 5 (.slice (some ⟨w.heap.size, 0, none⟩) 1 1) 1 [.int .i64 zone, .int .i64 grams, .int .i64 from_3, .int .i64 t_8, .int .i64 t_31]) := Lib.hid (by rw [← hwb35_35]; exact Sb35_35.out.1)
      have Gb35_35 : Hid (wb33_33.grownBy wb35_35 (Value.slice (some ⟨w.heap.size, 0, none⟩) 1 1).ownBlock) := Lib.hid (by rw [← hwb35_35]; exact Sb35_35.out.2)
      have HBwb35_35 := Lib.hid (Go.Proofs.Ytlljmgphgmklcaa.GoC.grown_new HBwb33_33.out Gb35_35.out (Go.Proofs.Ytlljmgphgmklcaa.GoC.own_ge Ot_0.out))
      clear Sb35_35
      have kr_13_0__46 := cell_other kr_13_0__41 Gb35_35.out (Apart.symm Dr_13_t_0.out)
      have kr_13_1__47 := cell_other kr_13_1__42 Gb35_35.out (Apart.symm Dr_13_t_0.out)
      have kr_13_2__48 := cell_other kr_13_2__43 Gb35_35.out (Apart.symm Dr_13_t_0.out)
      have kr_13_3__49 := cell_other kr_13_3__44 Gb35_35.out (Apart.symm Dr_13_t_0.out)
      have kr_13_4__50 := cell_other kr_13_4__45 Gb35_35.out (Apart.symm Dr_13_t_0.out)
      replace Pb33_33 := Lib.hid (own_other Pb33_33.out Gb35_35.out (Apart.symm Dr_13_t_0.out))
      replace Ot_6 := Lib.hid (own_other Ot_6.out Gb35_35.out (Apart.symm Dt_6_t_0.out))
      replace Ot_10 := Lib.hid (own_other Ot_10.out Gb35_35.out (Apart.symm Dt_10_t_0.out))
      replace Ot_30 := Lib.hid (own_other Ot_30.out Gb35_35.out (Apart.symm Dt_30_t_0.out))
      replace Kt_31 := Lib.hid (Go.Proofs.Ytlljmgphgmklcaa.GoC.cur_otherO Kt_31.out Gb35_35.out Dt_0_c0.out L0 Ot_0.out)
      clear Ot_0 Gb35_35
      have kt_0_0__51 : wb35_35.cell? ⟨w.heap.size, 0, none⟩ = some (.int .i64 zone) := Pb35_35.out.cells rfl 0 _ rfl
      have kt_0_1__52 : wb35_35.cell? ⟨w.heap.size, 1, none⟩ = some (.int .i64 grams) := Pb35_35.out.cells rfl 1 _ rfl
      have kt_0_2__53 : wb35_35.cell? ⟨w.heap.size, 2, none⟩ = some (.int .i64 from_3) := Pb35_35.out.cells rfl 2 _ rfl
      have kt_0_3__54 : wb35_35.cell? ⟨w.heap.size, 3, none⟩ = some (.int .i64 t_8) := Pb35_35.out.cells rfl 3 _ rfl
      have kt_0_4__55 : wb35_35.cell? ⟨w.heap.size, 4, none⟩ = some (.int .i64 t_31) := Pb35_35.out.cells rfl 4 _ rfl
      cases ret_hid H
      go_wp2_with fail
      (try simp only [Exit.inBlock, Exit.then])
      refine bodyPost_ret (v := .agg #[.int .i64 zone, .int .i64 grams, .int .i64 from_3, .int .i64 t_8, .int .i64 t_31]) ?hr_ ?hd_ ?_
      case hd_ => rfl
      case hr_ => simp [results, Try.results156, kt_0_0__51, kt_0_1__52, kt_0_2__53, kt_0_3__54, kt_0_4__55, go_sem]
      exact ⟨rfl, Kt_31.out, HBwb35_35.out⟩
  | true =>
    replace H := ite_t H
    replace H := let_hid H
    obtain ⟨t_22, ht_22, H⟩ := H
    replace H := let_hid H
    obtain ⟨t_23, ht_23, H⟩ := H
    obtain ⟨w_t_23, hw_t_23⟩ : ∃ x, wt_16.alloc (.cells #[.int .i64 t_22, .int .i64 4000, .int .i64 4001] 3) = x := ⟨_, rfl⟩
    have bw_t_23 : Below wt_16.heap.size wt_16 w_t_23 := by rw [← hw_t_23]; exact (Below.refl _ _).alloc (Nat.le_refl _) _
    have hs_t_23 := HBwt_16.out.size
    have nt_23 : t_23.length = 3 := by rw [← ht_23]; rfl
    have Ot_23 : Hid (w_t_23.ownsRow w.heap.size 3 1 (.slice (some ⟨wt_16.heap.size, 0, none⟩) 3 3) 3 (Go.Proofs.Ytlljmgphgmklcaa.HelpInt.iv t_23)) := by
      rw [← hw_t_23, ← ht_23]
      have e_ : ([.int .i64 t_22, .int .i64 4000, .int .i64 4001] : List Value) = (Go.Proofs.Ytlljmgphgmklcaa.HelpInt.iv ([t_22, 4000, 4001] : List Int)) := rfl
      exact Lib.hid (own_laid (n := 3) hs_t_23 e_ rfl (by unfold maxLen; omega))
    clear hs_t_23
    have hht_23 := Lib.hid ht_23
    clear ht_23
    replace nt_23 := Lib.hid nt_23
    have Dt_23_t_6 := Lib.hid (apart_fresh Ot_6.out)
    have Dt_23_t_10 := Lib.hid (apart_fresh Ot_10.out)
    have Dt_23_c0 := Lib.hid (Go.Proofs.Ytlljmgphgmklcaa.GoC.apart_cur Kt_16.out)
    have Dt_23_t_0 := Lib.hid (apart_box kt_0_0__11)
    have Dt_23_r_13 := Lib.hid (apart_box kr_13_0)
    have HBw_t_23 := Lib.hid (grown_below HBwt_16.out bw_t_23)
    have kt_0_0__56 := cell_below bw_t_23 kt_0_0__11
    have kt_0_1__57 := cell_below bw_t_23 kt_0_1__12
    have kt_0_2__58 := cell_below bw_t_23 kt_0_2__13
    have kt_0_3__59 := cell_below bw_t_23 kt_0_3__14
    have kt_0_4__60 := cell_below bw_t_23 kt_0_4__15
    have kr_13_0__61 := cell_below bw_t_23 kr_13_0
    have kr_13_1__62 := cell_below bw_t_23 kr_13_1
    have kr_13_2__63 := cell_below bw_t_23 kr_13_2
    have kr_13_3__64 := cell_below bw_t_23 kr_13_3
    have kr_13_4__65 := cell_below bw_t_23 kr_13_4
    replace Ot_6 := Lib.hid (own_below Ot_6.out bw_t_23)
    replace Ot_10 := Lib.hid (own_below Ot_10.out bw_t_23)
    replace Kt_16 := Lib.hid (Go.Proofs.Ytlljmgphgmklcaa.GoC.cur_below Kt_16.out bw_t_23)
    replace Ot_0 := Lib.hid (own_below Ot_0.out bw_t_23)
    replace Or_13 := Lib.hid (own_below Or_13.out bw_t_23)
    clear bw_t_23
    replace H := bind2_hid H
    obtain ⟨t_24, t_24_tp, qt_24, H⟩ := H
    go_wp2_with fail
    clear kt_0_0__11 kt_0_1__12 kt_0_2__13 kt_0_3__14 kt_0_4__15 kr_13_0 kr_13_1 kr_13_2 kr_13_3 kr_13_4
    have hc_ := nt_23.out
    have hv_ : (Value.slice (some ⟨wt_16.heap.size, 0, none⟩) 3 3 : Value) = Value.slice (some ⟨wt_16.heap.size, 0, none⟩) t_23.length 3 := by rw [hc_]
    try rw [hv_]
    replace Ot_23 := Lib.hid (own_len hc_ Ot_23.out)
    clear hc_ hv_
    go_wp2_with fail
    go_at_call 119
    refine (Go.Proofs.Ytlljmgphgmklcaa.GsL1CurAmong.C (t_16_tp) (t_23) (some ⟨wt_16.heap.size, 0, none⟩) 3 (g0) (Ac0) (cc0) (bc0) _   (Lib.hid (own_cells Ot_23.out)) (Lib.hid (own_max Ot_23.out)) Kt_16 (Lib.hid (fun _ => Dt_23_c0.out)) qt_24).mono ?_
    rintro e_t_24 wt_24 ⟨rfl, kt_24, gt_24⟩
    have Kt_24 := Lib.hid kt_24
    have Gt_24 : Hid (w_t_23.grownBy wt_24 (Value.slice (some ⟨g0, 0, none⟩) 1 1).ownBlock) := Lib.hid gt_24
    clear kt_24 gt_24
    have HBwt_24 := Lib.hid (Aid.grown_tr HBw_t_23.out Gt_24.out)
    replace kt_0_0__56 := cell_other kt_0_0__56 Gt_24.out (Apart.symm Dt_0_c0.out)
    replace kt_0_1__57 := cell_other kt_0_1__57 Gt_24.out (Apart.symm Dt_0_c0.out)
    replace kt_0_2__58 := cell_other kt_0_2__58 Gt_24.out (Apart.symm Dt_0_c0.out)
    replace kt_0_3__59 := cell_other kt_0_3__59 Gt_24.out (Apart.symm Dt_0_c0.out)
    replace kt_0_4__60 := cell_other kt_0_4__60 Gt_24.out (Apart.symm Dt_0_c0.out)
    replace kr_13_0__61 := cell_other kr_13_0__61 Gt_24.out (Apart.symm Dr_13_c0.out)
    replace kr_13_1__62 := cell_other kr_13_1__62 Gt_24.out (Apart.symm Dr_13_c0.out)
    replace kr_13_2__63 := cell_other kr_13_2__63 Gt_24.out (Apart.symm Dr_13_c0.out)
    replace kr_13_3__64 := cell_other kr_13_3__64 Gt_24.out (Apart.symm Dr_13_c0.out)
    replace kr_13_4__65 := cell_other kr_13_4__65 Gt_24.out (Apart.symm Dr_13_c0.out)
    replace Ot_0 := Lib.hid (own_other Ot_0.out Gt_24.out (Apart.symm Dt_0_c0.out))
    replace Or_13 := Lib.hid (own_other Or_13.out Gt_24.out (Apart.symm Dr_13_c0.out))
    replace Ot_6 := Lib.hid (own_other Ot_6.out Gt_24.out (Apart.symm Dt_6_c0.out))
    replace Ot_10 := Lib.hid (own_other Ot_10.out Gt_24.out (Apart.symm Dt_10_c0.out))
    replace Ot_23 := Lib.hid (own_other Ot_23.out Gt_24.out (Apart.symm Dt_23_c0.out))
    clear Kt_16 Gt_24
    obtain ⟨wb26_26, hwb26_26⟩ : ∃ x, (wt_24).setCell ⟨wt_11.heap.size, 3, none⟩ (.int .i64 t_24) = x := ⟨_, rfl⟩
    have z0b26_26 := Or_13.out.frozenAt 3
    have Sb26_26 := Lib.hid (own_stores [(3, .int .i64 t_24)] Or_13.out)
    have Pb26_26 : Hid (wb26_26.ownsRow w.heap.size 104 5 (.slice (some ⟨wt_11.heap.size, 0, none⟩) 1 1) 1 [.int .i64 zone, .int .i64 grams, .int .i64 from_3, .int .i64 t_24, .int .i64 t_11]) := Lib.hid (by rw [← hwb26_26]; exact Sb26_26.out.1)
    have Gb26_26 : Hid (wt_24.grownBy wb26_26 (Value.slice (some ⟨wt_11.heap.size, 0, none⟩) 1 1).ownBlock) := Lib.hid (by rw [← hwb26_26]; exact Sb26_26.out.2)
    have HBwb26_26 := Lib.hid (Go.Proofs.Ytlljmgphgmklcaa.GoC.grown_new HBwt_24.out Gb26_26.out (Go.Proofs.Ytlljmgphgmklcaa.GoC.own_ge Or_13.out))
    clear Sb26_26
    have kt_0_0__66 := cell_other kt_0_0__56 Gb26_26.out Dr_13_t_0.out
    have kt_0_1__67 := cell_other kt_0_1__57 Gb26_26.out Dr_13_t_0.out
    have kt_0_2__68 := cell_other kt_0_2__58 Gb26_26.out Dr_13_t_0.out
    have kt_0_3__69 := cell_other kt_0_3__59 Gb26_26.out Dr_13_t_0.out
    have kt_0_4__70 := cell_other kt_0_4__60 Gb26_26.out Dr_13_t_0.out
    replace Ot_0 := Lib.hid (own_other Ot_0.out Gb26_26.out Dr_13_t_0.out)
    replace Ot_6 := Lib.hid (own_other Ot_6.out Gb26_26.out Dr_13_t_6.out)
    replace Ot_10 := Lib.hid (own_other Ot_10.out Gb26_26.out Dr_13_t_10.out)
    replace Ot_23 := Lib.hid (own_other Ot_23.out Gb26_26.out (Apart.symm Dt_23_r_13.out))
    replace Kt_24 := Lib.hid (Go.Proofs.Ytlljmgphgmklcaa.GoC.cur_otherO Kt_24.out Gb26_26.out Dr_13_c0.out L0 Or_13.out)
    clear Or_13 Gb26_26
    have kr_13_0__71 : wb26_26.cell? ⟨wt_11.heap.size, 0, none⟩ = some (.int .i64 zone) := Pb26_26.out.cells rfl 0 _ rfl
    have kr_13_1__72 : wb26_26.cell? ⟨wt_11.heap.size, 1, none⟩ = some (.int .i64 grams) := Pb26_26.out.cells rfl 1 _ rfl
    have kr_13_2__73 : wb26_26.cell? ⟨wt_11.heap.size, 2, none⟩ = some (.int .i64 from_3) := Pb26_26.out.cells rfl 2 _ rfl
    have kr_13_3__74 : wb26_26.cell? ⟨wt_11.heap.size, 3, none⟩ = some (.int .i64 t_24) := Pb26_26.out.cells rfl 3 _ rfl
    have kr_13_4__75 : wb26_26.cell? ⟨wt_11.heap.size, 4, none⟩ = some (.int .i64 t_11) := Pb26_26.out.cells rfl 4 _ rfl
    obtain ⟨wb35_35, hwb35_35⟩ : ∃ x, (((((wb26_26).setCell ⟨w.heap.size, 0, none⟩ (.int .i64 zone)).setCell ⟨w.heap.size, 1, none⟩ (.int .i64 grams)).setCell ⟨w.heap.size, 2, none⟩ (.int .i64 from_3)).setCell ⟨w.heap.size, 3, none⟩ (.int .i64 t_24)).setCell ⟨w.heap.size, 4, none⟩ (.int .i64 t_11) = x := ⟨_, rfl⟩
    have z0b35_35 := Ot_0.out.frozenAt 0
    have z1b35_35 := Ot_0.out.frozenAt 1
    have z2b35_35 := Ot_0.out.frozenAt 2
    have z3b35_35 := Ot_0.out.frozenAt 3
    have z4b35_35 := Ot_0.out.frozenAt 4
    have Sb35_35 := Lib.hid (own_stores [(0, .int .i64 zone), (1, .int .i64 grams), (2, .int .i64 from_3), (3, .int .i64 t_24), (4, .int .i64 t_11)] Ot_0.out)
    have Pb35_35 : Hid (wb35_35.ownsRow w.heap.size 104 5 (.slice (some ⟨w.heap.size, 0, none⟩) 1 1) 1 [.int .i64 zone, .int .i64 grams, .int .i64 from_3, .int .i64 t_24, .int .i64 t_11]) := Lib.hid (by rw [← hwb35_35]; exact Sb35_35.out.1)
    have Gb35_35 : Hid (wb26_26.grownBy wb35_35 (Value.slice (some ⟨w.heap.size, 0, none⟩) 1 1).ownBlock) := Lib.hid (by rw [← hwb35_35]; exact Sb35_35.out.2)
    have HBwb35_35 := Lib.hid (Go.Proofs.Ytlljmgphgmklcaa.GoC.grown_new HBwb26_26.out Gb35_35.out (Go.Proofs.Ytlljmgphgmklcaa.GoC.own_ge Ot_0.out))
    clear Sb35_35
    have kr_13_0__76 := cell_other kr_13_0__71 Gb35_35.out (Apart.symm Dr_13_t_0.out)
    have kr_13_1__77 := cell_other kr_13_1__72 Gb35_35.out (Apart.symm Dr_13_t_0.out)
    have kr_13_2__78 := cell_other kr_13_2__73 Gb35_35.out (Apart.symm Dr_13_t_0.out)
    have kr_13_3__79 := cell_other kr_13_3__74 Gb35_35.out (Apart.symm Dr_13_t_0.out)
    have kr_13_4__80 := cell_other kr_13_4__75 Gb35_35.out (Apart.symm Dr_13_t_0.out)
    replace Pb26_26 := Lib.hid (own_other Pb26_26.out Gb35_35.out (Apart.symm Dr_13_t_0.out))
    replace Ot_6 := Lib.hid (own_other Ot_6.out Gb35_35.out (Apart.symm Dt_6_t_0.out))
    replace Ot_10 := Lib.hid (own_other Ot_10.out Gb35_35.out (Apart.symm Dt_10_t_0.out))
    replace Ot_23 := Lib.hid (own_other Ot_23.out Gb35_35.out (Apart.symm Dt_23_t_0.out))
    replace Kt_24 := Lib.hid (Go.Proofs.Ytlljmgphgmklcaa.GoC.cur_otherO Kt_24.out Gb35_35.out Dt_0_c0.out L0 Ot_0.out)
    clear Ot_0 Gb35_35
    have kt_0_0__81 : wb35_35.cell? ⟨w.heap.size, 0, none⟩ = some (.int .i64 zone) := Pb35_35.out.cells rfl 0 _ rfl
    have kt_0_1__82 : wb35_35.cell? ⟨w.heap.size, 1, none⟩ = some (.int .i64 grams) := Pb35_35.out.cells rfl 1 _ rfl
    have kt_0_2__83 : wb35_35.cell? ⟨w.heap.size, 2, none⟩ = some (.int .i64 from_3) := Pb35_35.out.cells rfl 2 _ rfl
    have kt_0_3__84 : wb35_35.cell? ⟨w.heap.size, 3, none⟩ = some (.int .i64 t_24) := Pb35_35.out.cells rfl 3 _ rfl
    have kt_0_4__85 : wb35_35.cell? ⟨w.heap.size, 4, none⟩ = some (.int .i64 t_11) := Pb35_35.out.cells rfl 4 _ rfl
    cases ret_hid H
    go_wp2_with fail
    (try simp only [Exit.inBlock, Exit.then])
    refine bodyPost_ret (v := .agg #[.int .i64 zone, .int .i64 grams, .int .i64 from_3, .int .i64 t_24, .int .i64 t_11]) ?hr_ ?hd_ ?_
    case hd_ => rfl
    case hr_ => simp [results, Try.results156, kt_0_0__81, kt_0_1__82, kt_0_2__83, kt_0_3__84, kt_0_4__85, go_sem]
    exact ⟨rfl, Kt_24.out, HBwb35_35.out⟩
end Go.Proofs.Ytlljmgphgmklcaa.GsL1CurRate

