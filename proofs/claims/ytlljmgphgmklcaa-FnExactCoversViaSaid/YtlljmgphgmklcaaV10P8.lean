/- Texts on which the proofs of several laws stand, one behind the other (8 of 13). No condition of their own. -/
import Derived.Test.YtlljmgphgmklcaaChecked
import Derived.Test.YtlljmgphgmklcaaV10P1
import Derived.Test.YtlljmgphgmklcaaV10P2
import Derived.WalkKit
import Derived.WalkSpells
import Derived.WalkLawsBesides
import Derived.BigQuiet
import Derived.OwnWalk
import Derived.Deep.LoopGhost
import Derived.Deep.QuietTactic
import Derived.IntWalk
import Derived.Lib.QuietBelow
/- loop.example/g01062/laws.eqIntS as a plain function, and the contract of the program's: where the plain one has an answer, the program has it. Conditions: slices read as lists. -/
namespace Go.Proofs.Ytlljmgphgmklcaa.GlEqIntS
set_option linter.unusedVariables false
set_option linter.unusedSimpArgs false
open Go.RowKit
open Go.Proofs.Ytlljmgphgmklcaa.Rowed Go.Proofs.Ytlljmgphgmklcaa.Turn Go.Proofs.Ytlljmgphgmklcaa.Aid Go.Proofs.Ytlljmgphgmklcaa.GoP Go.Proofs.Ytlljmgphgmklcaa.GoM

def l0 (a : (List Int)) (b : (List Int)) (k0 : Nat) (s : Unit) (nx0 bk0 : Unit → Option (Bool)) : Option (Bool) :=
  
  Option.bind (idx a (k0 : Int)) fun (yt_14 : Int) =>
  Option.bind (idx b (k0 : Int)) fun (yt_18 : Int) =>
  letK (yt_14 != yt_18) fun (t_20 : Bool) =>
  iteK t_20
  (some false)
  (appK nx0 ())

def e0  (s : Unit) : Option (Bool) :=
  
  some true

def P (a : (List Int)) (b : (List Int)) : Option (Bool) :=
  letK ((a.length : Int) != (b.length : Int)) fun (t_5 : Bool) =>
  iteK t_5
  (some false)
  (cntK (l0 a b) (a.length) 0 () (e0 ))

set_option maxRecDepth 100000 in
set_option maxHeartbeats 2000000 in
theorem C (a : (List Int)) (b : (List Int)) (A0 : Option Addr) (c0 : Nat) (A1 : Option Addr) (c1 : Nat)  (w : World) (M0 : Hid (Cells w 1 A0 a.length (Go.Proofs.Ytlljmgphgmklcaa.HelpInt.iv a))) (N0 : Hid (a.length ≤ 9223372036854775807)) (M1 : Hid (Cells w 1 A1 b.length (Go.Proofs.Ytlljmgphgmklcaa.HelpInt.iv b))) (N1 : Hid (b.length ≤ 9223372036854775807))  {r : Bool} (H : Hid (P a b = some r)) :
    Calls Try.prog 34 #[.slice A0 a.length c0, .slice A1 b.length c1] w (Gives (.bool r) w) := by
  have HB := Lib.hid (Below.refl w.heap.size w)
  unfold P at H
  have N0o := N0.out
  have N1o := N1.out
  go_enter Try.func34, Try.ntmps34
  replace H := let_hid H
  obtain ⟨t_5, ht_5, H⟩ := H
  cases t_5 with
  | false =>
    have Hht_5 : Hid (a.length = b.length) := Lib.hid (by have := bne_eq_false_iff_eq.1 ht_5; omega)
    have nht_5 : (a.length == b.length) = true := beq_iff_eq.2 Hht_5.out
    replace H := ite_f H
    go_wp2_with fail
    go_loopg [5] (a.length) (fun m_ v5_ wr => ∃ (k0 : Nat) , k0 + m_ = a.length ∧ v5_ = .int .i64 (k0 : Int) ∧ Hid (cntK (l0 a b) m_ k0 () (e0 ) = some r) ∧ Hid (Below w.heap.size w wr))
    case atStart => exact ⟨0, by omega, rfl, H, HB⟩
    case round =>
      obtain ⟨k0, hkm0, rfl, H, HBwr0⟩ := hrel
      rename World => wr0
      cases gk with
      | zero =>
        obtain rfl : k0 = a.length := by omega
        have hc0 : decide (((a.length : Nat) : Int) < ((a.length : Nat) : Int)) = false := by simp
        replace H := cnt_zero H
        unfold e0 at H
        obtain rfl := ret_hid H
        go_wp2_with fail
        go_ret
        exact ⟨rfl, HBwr0.out⟩
      | succ m0 =>
        have hlt0 : k0 < a.length := by omega
        have hc0 : decide ((k0 : Int) < ((a.length : Nat) : Int)) = true := by simp; omega
        replace H := cnt_succ H
        unfold l0 at H
        go_wp2_with fail
        replace H := idx_hid H
        obtain ⟨nt_14, yt_14, et_14, lt_14, gt_14, H⟩ := H
        obtain rfl : k0 = nt_14 := by omega
        clear et_14
        obtain ⟨ab_t_14, ao_t_14, zt_14, At_14, z_t_14, ct_14_0⟩ := Go.Proofs.Ytlljmgphgmklcaa.HelpInt.Ints.at_ M0.out lt_14
        obtain rfl := Option.some.inj (gt_14.out.symm.trans z_t_14)
        subst At_14
        have ltt_14 := cell_lt ct_14_0
        replace ct_14_0 := cell_below HBwr0.out ct_14_0
        clear z_t_14
        have b0t_14 : (0 : Int) ≤ (k0 : Int) := by omega
        have b1t_14 : (k0 : Int) < ((a.length : Nat) : Int) := by omega
        have b2t_14 : ((k0 : Int)).toNat = k0 := by omega
        have Hct_14_0 := Lib.hid ct_14_0
        replace ct_14_0 := cell_regrown ct_14_0
        replace H := idx_hid H
        obtain ⟨nt_18, yt_18, et_18, lt_18, gt_18, H⟩ := H
        obtain rfl : k0 = nt_18 := by omega
        clear et_18
        obtain ⟨ab_t_18, ao_t_18, zt_18, At_18, z_t_18, ct_18_0⟩ := Go.Proofs.Ytlljmgphgmklcaa.HelpInt.Ints.at_ M1.out lt_18
        obtain rfl := Option.some.inj (gt_18.out.symm.trans z_t_18)
        subst At_18
        have ltt_18 := cell_lt ct_18_0
        replace ct_18_0 := cell_below HBwr0.out ct_18_0
        clear z_t_18
        have b0t_18 : (0 : Int) ≤ (k0 : Int) := by omega
        have b1t_18 : (k0 : Int) < ((b.length : Nat) : Int) := by omega
        have b2t_18 : ((k0 : Int)).toNat = k0 := by omega
        have Hct_18_0 := Lib.hid ct_18_0
        replace ct_18_0 := cell_regrown ct_18_0
        replace H := let_hid H
        obtain ⟨t_20, ht_20, H⟩ := H
        refine wp_region_quiet_below (by kernel_rfl) (by kernel_rfl) ?_
        repeat (go_big_quiet_step (fail))
        refine wpQuiet_nil ?_
        intro Y6 hY6
        replace hY6 := below_class hY6
        replace ct_14_0 := Hct_14_0.out
        clear Hct_14_0
        replace ct_18_0 := Hct_18_0.out
        clear Hct_18_0
        have HBY6 := Lib.hid (Below.step HBwr0.out hY6)
        replace ct_14_0 := cell_below hY6 ct_14_0
        replace ct_18_0 := cell_below hY6 ct_18_0
        clear hY6
        cases t_20 with
        | false =>
          replace H := ite_f H
          replace H := app_hid H
          go_wp2_with fail
          go_roundg m0
          case measure => omega
          case rel => exact ⟨k0 + 1, by omega, by go_num, H, HBY6⟩
        | true =>
          replace H := ite_t H
          obtain rfl := ret_hid H
          go_wp2_with fail
          go_ret
          exact ⟨rfl, HBY6.out⟩
  | true =>
    have nht_5 : ¬ (a.length = b.length) := by have := bne_iff_ne.1 ht_5; omega
    replace H := ite_t H
    obtain rfl := ret_hid H
    go_wp2_with fail
    go_ret
    exact ⟨rfl, HB.out⟩
end Go.Proofs.Ytlljmgphgmklcaa.GlEqIntS

/- loop.example/g01062/laws.eqMail as a plain function, and the contract of the program's: where the plain one has an answer, the program has it. Conditions: slices read as lists. -/
namespace Go.Proofs.Ytlljmgphgmklcaa.GlEqMail
set_option linter.unusedVariables false
set_option linter.unusedSimpArgs false
open Go.RowKit
open Go.Proofs.Ytlljmgphgmklcaa.Rowed Go.Proofs.Ytlljmgphgmklcaa.Turn Go.Proofs.Ytlljmgphgmklcaa.Aid Go.Proofs.Ytlljmgphgmklcaa.GoP Go.Proofs.Ytlljmgphgmklcaa.GoM

def P (a : Go.Proofs.Ytlljmgphgmklcaa.PMail.Mail) (b : Go.Proofs.Ytlljmgphgmklcaa.PMail.Mail) : Option (Bool) :=
  unMail a fun (a_leave : Int) (a_from_ : Int) (a_to_ : Int) (a_arrive : Int) =>
  unMail b fun (b_leave : Int) (b_from_ : Int) (b_to_ : Int) (b_arrive : Int) =>
  letK (a_leave != b_leave) fun (t_7 : Bool) =>
  iteK t_7
  (some false)
  (letK (a_from_ != b_from_) fun (t_13 : Bool) =>
  iteK t_13
  (some false)
  (letK (a_to_ != b_to_) fun (t_19 : Bool) =>
  iteK t_19
  (some false)
  (letK (a_arrive != b_arrive) fun (t_25 : Bool) =>
  iteK t_25
  (some false)
  (some true))))

set_option maxRecDepth 100000 in
set_option maxHeartbeats 2000000 in
theorem C (a : Go.Proofs.Ytlljmgphgmklcaa.PMail.Mail) (b : Go.Proofs.Ytlljmgphgmklcaa.PMail.Mail)   (w : World)   {r : Bool} (H : Hid (P a b = some r)) :
    Calls Try.prog 97 #[a.val, b.val] w (Gives (.bool r) w) := by
  have HB := Lib.hid (Below.refl w.heap.size w)
  unfold P at H
  obtain ⟨a_leave, a_from_, a_to_, a_arrive⟩ := a
  replace H := unMail_hid H
  obtain ⟨b_leave, b_from_, b_to_, b_arrive⟩ := b
  replace H := unMail_hid H
  unfold Go.Proofs.Ytlljmgphgmklcaa.PMail.Mail.val
  go_enter Try.func97, Try.ntmps97
  obtain ⟨w_a_0, hw_a_0⟩ : ∃ x, w.alloc (.cells #[.int .i64 a_leave, .int .i64 a_from_, .int .i64 a_to_, .int .i64 a_arrive] 108) = x := ⟨_, rfl⟩
  have bw_a_0 : Below w.heap.size w w_a_0 := by rw [← hw_a_0]; exact (Below.refl _ _).alloc (Nat.le_refl _) _
  have HBw_a_0 := Lib.hid (Below.step HB.out bw_a_0)
  clear bw_a_0
  have ka_0_0 : w_a_0.cell? ⟨w.heap.size, 0, none⟩ = some (.int .i64 a_leave) := by rw [← hw_a_0]; exact box_new _ _ _ 0 _ rfl
  have ka_0_1 : w_a_0.cell? ⟨w.heap.size, 1, none⟩ = some (.int .i64 a_from_) := by rw [← hw_a_0]; exact box_new _ _ _ 1 _ rfl
  have ka_0_2 : w_a_0.cell? ⟨w.heap.size, 2, none⟩ = some (.int .i64 a_to_) := by rw [← hw_a_0]; exact box_new _ _ _ 2 _ rfl
  have ka_0_3 : w_a_0.cell? ⟨w.heap.size, 3, none⟩ = some (.int .i64 a_arrive) := by rw [← hw_a_0]; exact box_new _ _ _ 3 _ rfl
  obtain ⟨w_b_1, hw_b_1⟩ : ∃ x, w_a_0.alloc (.cells #[.int .i64 b_leave, .int .i64 b_from_, .int .i64 b_to_, .int .i64 b_arrive] 108) = x := ⟨_, rfl⟩
  have bw_b_1 : Below w_a_0.heap.size w_a_0 w_b_1 := by rw [← hw_b_1]; exact (Below.refl _ _).alloc (Nat.le_refl _) _
  have HBw_b_1 := Lib.hid (Below.step HBw_a_0.out bw_b_1)
  have ka_0_0__750 := cell_below bw_b_1 ka_0_0
  have ka_0_1__751 := cell_below bw_b_1 ka_0_1
  have ka_0_2__752 := cell_below bw_b_1 ka_0_2
  have ka_0_3__753 := cell_below bw_b_1 ka_0_3
  clear bw_b_1
  have kb_1_0 : w_b_1.cell? ⟨w_a_0.heap.size, 0, none⟩ = some (.int .i64 b_leave) := by rw [← hw_b_1]; exact box_new _ _ _ 0 _ rfl
  have kb_1_1 : w_b_1.cell? ⟨w_a_0.heap.size, 1, none⟩ = some (.int .i64 b_from_) := by rw [← hw_b_1]; exact box_new _ _ _ 1 _ rfl
  have kb_1_2 : w_b_1.cell? ⟨w_a_0.heap.size, 2, none⟩ = some (.int .i64 b_to_) := by rw [← hw_b_1]; exact box_new _ _ _ 2 _ rfl
  have kb_1_3 : w_b_1.cell? ⟨w_a_0.heap.size, 3, none⟩ = some (.int .i64 b_arrive) := by rw [← hw_b_1]; exact box_new _ _ _ 3 _ rfl
  replace H := let_hid H
  obtain ⟨t_7, ht_7, H⟩ := H
  cases t_7 with
  | false =>
    replace H := ite_f H
    replace H := let_hid H
    obtain ⟨t_13, ht_13, H⟩ := H
    cases t_13 with
    | false =>
      replace H := ite_f H
      replace H := let_hid H
      obtain ⟨t_19, ht_19, H⟩ := H
      cases t_19 with
      | false =>
        replace H := ite_f H
        replace H := let_hid H
        obtain ⟨t_25, ht_25, H⟩ := H
        cases t_25 with
        | false =>
          replace H := ite_f H
          obtain rfl := ret_hid H
          go_wp2_with fail
          go_ret
          exact ⟨rfl, HBw_b_1.out⟩
        | true =>
          replace H := ite_t H
          obtain rfl := ret_hid H
          go_wp2_with fail
          go_ret
          exact ⟨rfl, HBw_b_1.out⟩
      | true =>
        replace H := ite_t H
        obtain rfl := ret_hid H
        go_wp2_with fail
        go_ret
        exact ⟨rfl, HBw_b_1.out⟩
    | true =>
      replace H := ite_t H
      obtain rfl := ret_hid H
      go_wp2_with fail
      go_ret
      exact ⟨rfl, HBw_b_1.out⟩
  | true =>
    replace H := ite_t H
    obtain rfl := ret_hid H
    go_wp2_with fail
    go_ret
    exact ⟨rfl, HBw_b_1.out⟩
end Go.Proofs.Ytlljmgphgmklcaa.GlEqMail

/- loop.example/g01062/laws.eqMailS as a plain function, and the contract of the program's: where the plain one has an answer, the program has it. Conditions: slices read as lists. -/
namespace Go.Proofs.Ytlljmgphgmklcaa.GlEqMailS
set_option linter.unusedVariables false
set_option linter.unusedSimpArgs false
open Go.RowKit
open Go.Proofs.Ytlljmgphgmklcaa.Rowed Go.Proofs.Ytlljmgphgmklcaa.Turn Go.Proofs.Ytlljmgphgmklcaa.Aid Go.Proofs.Ytlljmgphgmklcaa.GoP Go.Proofs.Ytlljmgphgmklcaa.GoM

def l0 (a : (List Go.Proofs.Ytlljmgphgmklcaa.PMail.Mail)) (b : (List Go.Proofs.Ytlljmgphgmklcaa.PMail.Mail)) (k0 : Nat) (s : Unit) (nx0 bk0 : Unit → Option (Bool)) : Option (Bool) :=
  
  Option.bind (idx a (k0 : Int)) fun (yt_14 : Go.Proofs.Ytlljmgphgmklcaa.PMail.Mail) =>
  unMail yt_14 fun (t_14_leave : Int) (t_14_from_ : Int) (t_14_to_ : Int) (t_14_arrive : Int) =>
  Option.bind (idx b (k0 : Int)) fun (yt_18 : Go.Proofs.Ytlljmgphgmklcaa.PMail.Mail) =>
  unMail yt_18 fun (t_18_leave : Int) (t_18_from_ : Int) (t_18_to_ : Int) (t_18_arrive : Int) =>
  Option.bind (Go.Proofs.Ytlljmgphgmklcaa.GlEqMail.P (Go.Proofs.Ytlljmgphgmklcaa.PMail.Mail.mk t_14_leave t_14_from_ t_14_to_ t_14_arrive) (Go.Proofs.Ytlljmgphgmklcaa.PMail.Mail.mk t_18_leave t_18_from_ t_18_to_ t_18_arrive)) fun (t_20 : Bool) =>
  letK (!t_20) fun (t_21 : Bool) =>
  iteK t_21
  (some false)
  (appK nx0 ())

def e0  (s : Unit) : Option (Bool) :=
  
  some true

def P (a : (List Go.Proofs.Ytlljmgphgmklcaa.PMail.Mail)) (b : (List Go.Proofs.Ytlljmgphgmklcaa.PMail.Mail)) : Option (Bool) :=
  letK ((a.length : Int) != (b.length : Int)) fun (t_5 : Bool) =>
  iteK t_5
  (some false)
  (cntK (l0 a b) (a.length) 0 () (e0 ))

set_option maxRecDepth 100000 in
set_option maxHeartbeats 2000000 in
theorem C (a : (List Go.Proofs.Ytlljmgphgmklcaa.PMail.Mail)) (b : (List Go.Proofs.Ytlljmgphgmklcaa.PMail.Mail)) (A0 : Option Addr) (c0 : Nat) (A1 : Option Addr) (c1 : Nat)  (w : World) (M0 : Hid (Cells w 4 A0 a.length (Go.Proofs.Ytlljmgphgmklcaa.PMail.flat a))) (N0 : Hid (a.length ≤ 9223372036854775807)) (M1 : Hid (Cells w 4 A1 b.length (Go.Proofs.Ytlljmgphgmklcaa.PMail.flat b))) (N1 : Hid (b.length ≤ 9223372036854775807))  {r : Bool} (H : Hid (P a b = some r)) :
    Calls Try.prog 31 #[.slice A0 a.length c0, .slice A1 b.length c1] w (Gives (.bool r) w) := by
  have HB := Lib.hid (Below.refl w.heap.size w)
  unfold P at H
  have N0o := N0.out
  have N1o := N1.out
  go_enter Try.func31, Try.ntmps31
  replace H := let_hid H
  obtain ⟨t_5, ht_5, H⟩ := H
  cases t_5 with
  | false =>
    have Hht_5 : Hid (a.length = b.length) := Lib.hid (by have := bne_eq_false_iff_eq.1 ht_5; omega)
    have nht_5 : (a.length == b.length) = true := beq_iff_eq.2 Hht_5.out
    replace H := ite_f H
    go_wp2_with fail
    go_loopg [5] (a.length) (fun m_ v5_ wr => ∃ (k0 : Nat) , k0 + m_ = a.length ∧ v5_ = .int .i64 (k0 : Int) ∧ Hid (cntK (l0 a b) m_ k0 () (e0 ) = some r) ∧ Hid (Below w.heap.size w wr))
    case atStart => exact ⟨0, by omega, rfl, H, HB⟩
    case round =>
      obtain ⟨k0, hkm0, rfl, H, HBwr0⟩ := hrel
      rename World => wr0
      cases gk with
      | zero =>
        obtain rfl : k0 = a.length := by omega
        have hc0 : decide (((a.length : Nat) : Int) < ((a.length : Nat) : Int)) = false := by simp
        replace H := cnt_zero H
        unfold e0 at H
        obtain rfl := ret_hid H
        go_wp2_with fail
        go_ret
        exact ⟨rfl, HBwr0.out⟩
      | succ m0 =>
        have hlt0 : k0 < a.length := by omega
        have hc0 : decide ((k0 : Int) < ((a.length : Nat) : Int)) = true := by simp; omega
        replace H := cnt_succ H
        unfold l0 at H
        go_wp2_with fail
        replace H := idx_hid H
        obtain ⟨nt_14, yt_14, et_14, lt_14, gt_14, H⟩ := H
        obtain rfl : k0 = nt_14 := by omega
        clear et_14
        obtain ⟨t_14_leave, t_14_from_, t_14_to_, t_14_arrive⟩ := yt_14
        replace H := unMail_hid H
        obtain ⟨ab_t_14, ao_t_14, zt_14, At_14, z_t_14, ct_14_0, ct_14_1, ct_14_2, ct_14_3⟩ := Go.Proofs.Ytlljmgphgmklcaa.OMail.at_ M0.out lt_14
        obtain rfl := Option.some.inj (gt_14.out.symm.trans z_t_14)
        subst At_14
        have ltt_14 := cell_lt ct_14_0
        replace ct_14_0 := cell_below HBwr0.out ct_14_0
        replace ct_14_1 := cell_below HBwr0.out ct_14_1
        replace ct_14_2 := cell_below HBwr0.out ct_14_2
        replace ct_14_3 := cell_below HBwr0.out ct_14_3
        clear z_t_14
        have b0t_14 : (0 : Int) ≤ (k0 : Int) := by omega
        have b1t_14 : (k0 : Int) < ((a.length : Nat) : Int) := by omega
        have b2t_14 : ((k0 : Int)).toNat = k0 := by omega
        have Hct_14_0 := Lib.hid ct_14_0
        replace ct_14_0 := cell_regrown ct_14_0
        have Hct_14_1 := Lib.hid ct_14_1
        replace ct_14_1 := cell_regrown ct_14_1
        have Hct_14_2 := Lib.hid ct_14_2
        replace ct_14_2 := cell_regrown ct_14_2
        have Hct_14_3 := Lib.hid ct_14_3
        replace ct_14_3 := cell_regrown ct_14_3
        replace H := idx_hid H
        obtain ⟨nt_18, yt_18, et_18, lt_18, gt_18, H⟩ := H
        obtain rfl : k0 = nt_18 := by omega
        clear et_18
        obtain ⟨t_18_leave, t_18_from_, t_18_to_, t_18_arrive⟩ := yt_18
        replace H := unMail_hid H
        obtain ⟨ab_t_18, ao_t_18, zt_18, At_18, z_t_18, ct_18_0, ct_18_1, ct_18_2, ct_18_3⟩ := Go.Proofs.Ytlljmgphgmklcaa.OMail.at_ M1.out lt_18
        obtain rfl := Option.some.inj (gt_18.out.symm.trans z_t_18)
        subst At_18
        have ltt_18 := cell_lt ct_18_0
        replace ct_18_0 := cell_below HBwr0.out ct_18_0
        replace ct_18_1 := cell_below HBwr0.out ct_18_1
        replace ct_18_2 := cell_below HBwr0.out ct_18_2
        replace ct_18_3 := cell_below HBwr0.out ct_18_3
        clear z_t_18
        have b0t_18 : (0 : Int) ≤ (k0 : Int) := by omega
        have b1t_18 : (k0 : Int) < ((b.length : Nat) : Int) := by omega
        have b2t_18 : ((k0 : Int)).toNat = k0 := by omega
        have Hct_18_0 := Lib.hid ct_18_0
        replace ct_18_0 := cell_regrown ct_18_0
        have Hct_18_1 := Lib.hid ct_18_1
        replace ct_18_1 := cell_regrown ct_18_1
        have Hct_18_2 := Lib.hid ct_18_2
        replace ct_18_2 := cell_regrown ct_18_2
        have Hct_18_3 := Lib.hid ct_18_3
        replace ct_18_3 := cell_regrown ct_18_3
        replace H := bind_hid H
        obtain ⟨t_20, qt_20, H⟩ := H
        have nt_20 : ∀ d os, Calls Try.prog 97 #[.agg #[.int .i64 t_14_leave, .int .i64 t_14_from_, .int .i64 t_14_to_, .int .i64 t_14_arrive], .agg #[.int .i64 t_18_leave, .int .i64 t_18_from_, .int .i64 t_18_to_, .int .i64 t_18_arrive]] (Go.Sort.grow (redrawn wr0 d) os) fun e w'' => e = .returned (.bool t_20) ∧ ∃ p : Regrown, w'' = Go.Sort.grow (redrawn wr0 p.d) p.os := fun d os => Calls.regrown_of (Go.Proofs.Ytlljmgphgmklcaa.GlEqMail.C ((Go.Proofs.Ytlljmgphgmklcaa.PMail.Mail.mk t_14_leave t_14_from_ t_14_to_ t_14_arrive)) ((Go.Proofs.Ytlljmgphgmklcaa.PMail.Mail.mk t_18_leave t_18_from_ t_18_to_ t_18_arrive))  _    qt_20)
        cases t_20 with
        | false =>
          replace H := let_hid H
          obtain ⟨t_21, ht_21, H⟩ := H
          obtain rfl : t_21 = true := ht_21.symm
          refine wp_region_quiet_below (by kernel_rfl) (by kernel_rfl) ?_
          repeat (go_big_quiet_step (first | (go_at_call 97; exact nt_20 _ _)))
          refine wpQuiet_nil ?_
          intro Y6 hY6
          replace hY6 := below_class hY6
          clear nt_20
          replace ct_14_0 := Hct_14_0.out
          clear Hct_14_0
          replace ct_14_1 := Hct_14_1.out
          clear Hct_14_1
          replace ct_14_2 := Hct_14_2.out
          clear Hct_14_2
          replace ct_14_3 := Hct_14_3.out
          clear Hct_14_3
          replace ct_18_0 := Hct_18_0.out
          clear Hct_18_0
          replace ct_18_1 := Hct_18_1.out
          clear Hct_18_1
          replace ct_18_2 := Hct_18_2.out
          clear Hct_18_2
          replace ct_18_3 := Hct_18_3.out
          clear Hct_18_3
          have HBY6 := Lib.hid (Below.step HBwr0.out hY6)
          replace ct_14_0 := cell_below hY6 ct_14_0
          replace ct_14_1 := cell_below hY6 ct_14_1
          replace ct_14_2 := cell_below hY6 ct_14_2
          replace ct_14_3 := cell_below hY6 ct_14_3
          replace ct_18_0 := cell_below hY6 ct_18_0
          replace ct_18_1 := cell_below hY6 ct_18_1
          replace ct_18_2 := cell_below hY6 ct_18_2
          replace ct_18_3 := cell_below hY6 ct_18_3
          clear hY6
          replace H := ite_t H
          obtain rfl := ret_hid H
          go_wp2_with fail
          go_ret
          exact ⟨rfl, HBY6.out⟩
        | true =>
          replace H := let_hid H
          obtain ⟨t_21, ht_21, H⟩ := H
          obtain rfl : t_21 = false := ht_21.symm
          refine wp_region_quiet_below (by kernel_rfl) (by kernel_rfl) ?_
          repeat (go_big_quiet_step (first | (go_at_call 97; exact nt_20 _ _)))
          refine wpQuiet_nil ?_
          intro Y6 hY6
          replace hY6 := below_class hY6
          clear nt_20
          replace ct_14_0 := Hct_14_0.out
          clear Hct_14_0
          replace ct_14_1 := Hct_14_1.out
          clear Hct_14_1
          replace ct_14_2 := Hct_14_2.out
          clear Hct_14_2
          replace ct_14_3 := Hct_14_3.out
          clear Hct_14_3
          replace ct_18_0 := Hct_18_0.out
          clear Hct_18_0
          replace ct_18_1 := Hct_18_1.out
          clear Hct_18_1
          replace ct_18_2 := Hct_18_2.out
          clear Hct_18_2
          replace ct_18_3 := Hct_18_3.out
          clear Hct_18_3
          have HBY6 := Lib.hid (Below.step HBwr0.out hY6)
          replace ct_14_0 := cell_below hY6 ct_14_0
          replace ct_14_1 := cell_below hY6 ct_14_1
          replace ct_14_2 := cell_below hY6 ct_14_2
          replace ct_14_3 := cell_below hY6 ct_14_3
          replace ct_18_0 := cell_below hY6 ct_18_0
          replace ct_18_1 := cell_below hY6 ct_18_1
          replace ct_18_2 := cell_below hY6 ct_18_2
          replace ct_18_3 := cell_below hY6 ct_18_3
          clear hY6
          replace H := ite_f H
          replace H := app_hid H
          go_wp2_with fail
          go_roundg m0
          case measure => omega
          case rel => exact ⟨k0 + 1, by omega, by go_num, H, HBY6⟩
  | true =>
    have nht_5 : ¬ (a.length = b.length) := by have := bne_iff_ne.1 ht_5; omega
    replace H := ite_t H
    obtain rfl := ret_hid H
    go_wp2_with fail
    go_ret
    exact ⟨rfl, HB.out⟩
end Go.Proofs.Ytlljmgphgmklcaa.GlEqMailS

/- loop.example/g01062/laws.eqCover as a plain function, and the contract of the program's: where the plain one has an answer, the program has it. Conditions: slices read as lists. -/
namespace Go.Proofs.Ytlljmgphgmklcaa.GlEqCover
set_option linter.unusedVariables false
set_option linter.unusedSimpArgs false
open Go.RowKit
open Go.Proofs.Ytlljmgphgmklcaa.Rowed Go.Proofs.Ytlljmgphgmklcaa.Turn Go.Proofs.Ytlljmgphgmklcaa.Aid Go.Proofs.Ytlljmgphgmklcaa.GoP Go.Proofs.Ytlljmgphgmklcaa.GoM

def P (a : Go.Proofs.Ytlljmgphgmklcaa.PCover.Cover) (b : Go.Proofs.Ytlljmgphgmklcaa.PCover.Cover) : Option (Bool) :=
  unCover a fun (a_id : Int) (a_day : Int) (a_zone : Int) (a_grams : Int) (a_paid : Int) (a_from_ : Int) (a_to_ : Int) (a_leave : Int) (a_arrive : Int) =>
  unCover b fun (b_id : Int) (b_day : Int) (b_zone : Int) (b_grams : Int) (b_paid : Int) (b_from_ : Int) (b_to_ : Int) (b_leave : Int) (b_arrive : Int) =>
  letK (a_id != b_id) fun (t_7 : Bool) =>
  iteK t_7
  (some false)
  (letK (a_day != b_day) fun (t_13 : Bool) =>
  iteK t_13
  (some false)
  (letK (a_zone != b_zone) fun (t_19 : Bool) =>
  iteK t_19
  (some false)
  (letK (a_grams != b_grams) fun (t_25 : Bool) =>
  iteK t_25
  (some false)
  (letK (a_paid != b_paid) fun (t_31 : Bool) =>
  iteK t_31
  (some false)
  (letK (a_from_ != b_from_) fun (t_37 : Bool) =>
  iteK t_37
  (some false)
  (letK (a_to_ != b_to_) fun (t_43 : Bool) =>
  iteK t_43
  (some false)
  (letK (a_leave != b_leave) fun (t_49 : Bool) =>
  iteK t_49
  (some false)
  (letK (a_arrive != b_arrive) fun (t_55 : Bool) =>
  iteK t_55
  (some false)
  (some true)))))))))

set_option maxRecDepth 100000 in
set_option maxHeartbeats 2000000 in
theorem C (a : Go.Proofs.Ytlljmgphgmklcaa.PCover.Cover) (b : Go.Proofs.Ytlljmgphgmklcaa.PCover.Cover)   (w : World)   {r : Bool} (H : Hid (P a b = some r)) :
    Calls Try.prog 88 #[a.val, b.val] w (Gives (.bool r) w) := by
  have HB := Lib.hid (Below.refl w.heap.size w)
  unfold P at H
  obtain ⟨a_id, a_day, a_zone, a_grams, a_paid, a_from_, a_to_, a_leave, a_arrive⟩ := a
  replace H := unCover_hid H
  obtain ⟨b_id, b_day, b_zone, b_grams, b_paid, b_from_, b_to_, b_leave, b_arrive⟩ := b
  replace H := unCover_hid H
  unfold Go.Proofs.Ytlljmgphgmklcaa.PCover.Cover.val
  go_enter Try.func88, Try.ntmps88
  obtain ⟨w_a_0, hw_a_0⟩ : ∃ x, w.alloc (.cells #[.int .i64 a_id, .int .i64 a_day, .int .i64 a_zone, .int .i64 a_grams, .int .i64 a_paid, .int .i64 a_from_, .int .i64 a_to_, .int .i64 a_leave, .int .i64 a_arrive] 25) = x := ⟨_, rfl⟩
  have bw_a_0 : Below w.heap.size w w_a_0 := by rw [← hw_a_0]; exact (Below.refl _ _).alloc (Nat.le_refl _) _
  have HBw_a_0 := Lib.hid (Below.step HB.out bw_a_0)
  clear bw_a_0
  have ka_0_0 : w_a_0.cell? ⟨w.heap.size, 0, none⟩ = some (.int .i64 a_id) := by rw [← hw_a_0]; exact box_new _ _ _ 0 _ rfl
  have ka_0_1 : w_a_0.cell? ⟨w.heap.size, 1, none⟩ = some (.int .i64 a_day) := by rw [← hw_a_0]; exact box_new _ _ _ 1 _ rfl
  have ka_0_2 : w_a_0.cell? ⟨w.heap.size, 2, none⟩ = some (.int .i64 a_zone) := by rw [← hw_a_0]; exact box_new _ _ _ 2 _ rfl
  have ka_0_3 : w_a_0.cell? ⟨w.heap.size, 3, none⟩ = some (.int .i64 a_grams) := by rw [← hw_a_0]; exact box_new _ _ _ 3 _ rfl
  have ka_0_4 : w_a_0.cell? ⟨w.heap.size, 4, none⟩ = some (.int .i64 a_paid) := by rw [← hw_a_0]; exact box_new _ _ _ 4 _ rfl
  have ka_0_5 : w_a_0.cell? ⟨w.heap.size, 5, none⟩ = some (.int .i64 a_from_) := by rw [← hw_a_0]; exact box_new _ _ _ 5 _ rfl
  have ka_0_6 : w_a_0.cell? ⟨w.heap.size, 6, none⟩ = some (.int .i64 a_to_) := by rw [← hw_a_0]; exact box_new _ _ _ 6 _ rfl
  have ka_0_7 : w_a_0.cell? ⟨w.heap.size, 7, none⟩ = some (.int .i64 a_leave) := by rw [← hw_a_0]; exact box_new _ _ _ 7 _ rfl
  have ka_0_8 : w_a_0.cell? ⟨w.heap.size, 8, none⟩ = some (.int .i64 a_arrive) := by rw [← hw_a_0]; exact box_new _ _ _ 8 _ rfl
  obtain ⟨w_b_1, hw_b_1⟩ : ∃ x, w_a_0.alloc (.cells #[.int .i64 b_id, .int .i64 b_day, .int .i64 b_zone, .int .i64 b_grams, .int .i64 b_paid, .int .i64 b_from_, .int .i64 b_to_, .int .i64 b_leave, .int .i64 b_arrive] 25) = x := ⟨_, rfl⟩
  have bw_b_1 : Below w_a_0.heap.size w_a_0 w_b_1 := by rw [← hw_b_1]; exact (Below.refl _ _).alloc (Nat.le_refl _) _
  have HBw_b_1 := Lib.hid (Below.step HBw_a_0.out bw_b_1)
  have ka_0_0__754 := cell_below bw_b_1 ka_0_0
  have ka_0_1__755 := cell_below bw_b_1 ka_0_1
  have ka_0_2__756 := cell_below bw_b_1 ka_0_2
  have ka_0_3__757 := cell_below bw_b_1 ka_0_3
  have ka_0_4__758 := cell_below bw_b_1 ka_0_4
  have ka_0_5__759 := cell_below bw_b_1 ka_0_5
  have ka_0_6__760 := cell_below bw_b_1 ka_0_6
  have ka_0_7__761 := cell_below bw_b_1 ka_0_7
  have ka_0_8__762 := cell_below bw_b_1 ka_0_8
  clear bw_b_1
  have kb_1_0 : w_b_1.cell? ⟨w_a_0.heap.size, 0, none⟩ = some (.int .i64 b_id) := by rw [← hw_b_1]; exact box_new _ _ _ 0 _ rfl
  have kb_1_1 : w_b_1.cell? ⟨w_a_0.heap.size, 1, none⟩ = some (.int .i64 b_day) := by rw [← hw_b_1]; exact box_new _ _ _ 1 _ rfl
  have kb_1_2 : w_b_1.cell? ⟨w_a_0.heap.size, 2, none⟩ = some (.int .i64 b_zone) := by rw [← hw_b_1]; exact box_new _ _ _ 2 _ rfl
  have kb_1_3 : w_b_1.cell? ⟨w_a_0.heap.size, 3, none⟩ = some (.int .i64 b_grams) := by rw [← hw_b_1]; exact box_new _ _ _ 3 _ rfl
  have kb_1_4 : w_b_1.cell? ⟨w_a_0.heap.size, 4, none⟩ = some (.int .i64 b_paid) := by rw [← hw_b_1]; exact box_new _ _ _ 4 _ rfl
  have kb_1_5 : w_b_1.cell? ⟨w_a_0.heap.size, 5, none⟩ = some (.int .i64 b_from_) := by rw [← hw_b_1]; exact box_new _ _ _ 5 _ rfl
  have kb_1_6 : w_b_1.cell? ⟨w_a_0.heap.size, 6, none⟩ = some (.int .i64 b_to_) := by rw [← hw_b_1]; exact box_new _ _ _ 6 _ rfl
  have kb_1_7 : w_b_1.cell? ⟨w_a_0.heap.size, 7, none⟩ = some (.int .i64 b_leave) := by rw [← hw_b_1]; exact box_new _ _ _ 7 _ rfl
  have kb_1_8 : w_b_1.cell? ⟨w_a_0.heap.size, 8, none⟩ = some (.int .i64 b_arrive) := by rw [← hw_b_1]; exact box_new _ _ _ 8 _ rfl
  replace H := let_hid H
  obtain ⟨t_7, ht_7, H⟩ := H
  cases t_7 with
  | false =>
    replace H := ite_f H
    replace H := let_hid H
    obtain ⟨t_13, ht_13, H⟩ := H
    cases t_13 with
    | false =>
      replace H := ite_f H
      replace H := let_hid H
      obtain ⟨t_19, ht_19, H⟩ := H
      cases t_19 with
      | false =>
        replace H := ite_f H
        replace H := let_hid H
        obtain ⟨t_25, ht_25, H⟩ := H
        cases t_25 with
        | false =>
          replace H := ite_f H
          replace H := let_hid H
          obtain ⟨t_31, ht_31, H⟩ := H
          cases t_31 with
          | false =>
            replace H := ite_f H
            replace H := let_hid H
            obtain ⟨t_37, ht_37, H⟩ := H
            cases t_37 with
            | false =>
              replace H := ite_f H
              replace H := let_hid H
              obtain ⟨t_43, ht_43, H⟩ := H
              cases t_43 with
              | false =>
                replace H := ite_f H
                replace H := let_hid H
                obtain ⟨t_49, ht_49, H⟩ := H
                cases t_49 with
                | false =>
                  replace H := ite_f H
                  replace H := let_hid H
                  obtain ⟨t_55, ht_55, H⟩ := H
                  cases t_55 with
                  | false =>
                    replace H := ite_f H
                    obtain rfl := ret_hid H
                    go_wp2_with fail
                    go_ret
                    exact ⟨rfl, HBw_b_1.out⟩
                  | true =>
                    replace H := ite_t H
                    obtain rfl := ret_hid H
                    go_wp2_with fail
                    go_ret
                    exact ⟨rfl, HBw_b_1.out⟩
                | true =>
                  replace H := ite_t H
                  obtain rfl := ret_hid H
                  go_wp2_with fail
                  go_ret
                  exact ⟨rfl, HBw_b_1.out⟩
              | true =>
                replace H := ite_t H
                obtain rfl := ret_hid H
                go_wp2_with fail
                go_ret
                exact ⟨rfl, HBw_b_1.out⟩
            | true =>
              replace H := ite_t H
              obtain rfl := ret_hid H
              go_wp2_with fail
              go_ret
              exact ⟨rfl, HBw_b_1.out⟩
          | true =>
            replace H := ite_t H
            obtain rfl := ret_hid H
            go_wp2_with fail
            go_ret
            exact ⟨rfl, HBw_b_1.out⟩
        | true =>
          replace H := ite_t H
          obtain rfl := ret_hid H
          go_wp2_with fail
          go_ret
          exact ⟨rfl, HBw_b_1.out⟩
      | true =>
        replace H := ite_t H
        obtain rfl := ret_hid H
        go_wp2_with fail
        go_ret
        exact ⟨rfl, HBw_b_1.out⟩
    | true =>
      replace H := ite_t H
      obtain rfl := ret_hid H
      go_wp2_with fail
      go_ret
      exact ⟨rfl, HBw_b_1.out⟩
  | true =>
    replace H := ite_t H
    obtain rfl := ret_hid H
    go_wp2_with fail
    go_ret
    exact ⟨rfl, HBw_b_1.out⟩
end Go.Proofs.Ytlljmgphgmklcaa.GlEqCover

/- loop.example/g01062/laws.eqCoverS as a plain function, and the contract of the program's: where the plain one has an answer, the program has it. Conditions: slices read as lists. -/
namespace Go.Proofs.Ytlljmgphgmklcaa.GlEqCoverS
set_option linter.unusedVariables false
set_option linter.unusedSimpArgs false
open Go.RowKit
open Go.Proofs.Ytlljmgphgmklcaa.Rowed Go.Proofs.Ytlljmgphgmklcaa.Turn Go.Proofs.Ytlljmgphgmklcaa.Aid Go.Proofs.Ytlljmgphgmklcaa.GoP Go.Proofs.Ytlljmgphgmklcaa.GoM

def l0 (a : (List Go.Proofs.Ytlljmgphgmklcaa.PCover.Cover)) (b : (List Go.Proofs.Ytlljmgphgmklcaa.PCover.Cover)) (k0 : Nat) (s : Unit) (nx0 bk0 : Unit → Option (Bool)) : Option (Bool) :=
  
  Option.bind (idx a (k0 : Int)) fun (yt_14 : Go.Proofs.Ytlljmgphgmklcaa.PCover.Cover) =>
  unCover yt_14 fun (t_14_id : Int) (t_14_day : Int) (t_14_zone : Int) (t_14_grams : Int) (t_14_paid : Int) (t_14_from_ : Int) (t_14_to_ : Int) (t_14_leave : Int) (t_14_arrive : Int) =>
  Option.bind (idx b (k0 : Int)) fun (yt_18 : Go.Proofs.Ytlljmgphgmklcaa.PCover.Cover) =>
  unCover yt_18 fun (t_18_id : Int) (t_18_day : Int) (t_18_zone : Int) (t_18_grams : Int) (t_18_paid : Int) (t_18_from_ : Int) (t_18_to_ : Int) (t_18_leave : Int) (t_18_arrive : Int) =>
  Option.bind (Go.Proofs.Ytlljmgphgmklcaa.GlEqCover.P (Go.Proofs.Ytlljmgphgmklcaa.PCover.Cover.mk t_14_id t_14_day t_14_zone t_14_grams t_14_paid t_14_from_ t_14_to_ t_14_leave t_14_arrive) (Go.Proofs.Ytlljmgphgmklcaa.PCover.Cover.mk t_18_id t_18_day t_18_zone t_18_grams t_18_paid t_18_from_ t_18_to_ t_18_leave t_18_arrive)) fun (t_20 : Bool) =>
  letK (!t_20) fun (t_21 : Bool) =>
  iteK t_21
  (some false)
  (appK nx0 ())

def e0  (s : Unit) : Option (Bool) :=
  
  some true

def P (a : (List Go.Proofs.Ytlljmgphgmklcaa.PCover.Cover)) (b : (List Go.Proofs.Ytlljmgphgmklcaa.PCover.Cover)) : Option (Bool) :=
  letK ((a.length : Int) != (b.length : Int)) fun (t_5 : Bool) =>
  iteK t_5
  (some false)
  (cntK (l0 a b) (a.length) 0 () (e0 ))

set_option maxRecDepth 100000 in
set_option maxHeartbeats 2000000 in
theorem C (a : (List Go.Proofs.Ytlljmgphgmklcaa.PCover.Cover)) (b : (List Go.Proofs.Ytlljmgphgmklcaa.PCover.Cover)) (A0 : Option Addr) (c0 : Nat) (A1 : Option Addr) (c1 : Nat)  (w : World) (M0 : Hid (Cells w 9 A0 a.length (Go.Proofs.Ytlljmgphgmklcaa.PCover.flat a))) (N0 : Hid (a.length ≤ 9223372036854775807)) (M1 : Hid (Cells w 9 A1 b.length (Go.Proofs.Ytlljmgphgmklcaa.PCover.flat b))) (N1 : Hid (b.length ≤ 9223372036854775807))  {r : Bool} (H : Hid (P a b = some r)) :
    Calls Try.prog 23 #[.slice A0 a.length c0, .slice A1 b.length c1] w (Gives (.bool r) w) := by
  have HB := Lib.hid (Below.refl w.heap.size w)
  unfold P at H
  have N0o := N0.out
  have N1o := N1.out
  go_enter Try.func23, Try.ntmps23
  replace H := let_hid H
  obtain ⟨t_5, ht_5, H⟩ := H
  cases t_5 with
  | false =>
    have Hht_5 : Hid (a.length = b.length) := Lib.hid (by have := bne_eq_false_iff_eq.1 ht_5; omega)
    have nht_5 : (a.length == b.length) = true := beq_iff_eq.2 Hht_5.out
    replace H := ite_f H
    go_wp2_with fail
    go_loopg [5] (a.length) (fun m_ v5_ wr => ∃ (k0 : Nat) , k0 + m_ = a.length ∧ v5_ = .int .i64 (k0 : Int) ∧ Hid (cntK (l0 a b) m_ k0 () (e0 ) = some r) ∧ Hid (Below w.heap.size w wr))
    case atStart => exact ⟨0, by omega, rfl, H, HB⟩
    case round =>
      obtain ⟨k0, hkm0, rfl, H, HBwr0⟩ := hrel
      rename World => wr0
      cases gk with
      | zero =>
        obtain rfl : k0 = a.length := by omega
        have hc0 : decide (((a.length : Nat) : Int) < ((a.length : Nat) : Int)) = false := by simp
        replace H := cnt_zero H
        unfold e0 at H
        obtain rfl := ret_hid H
        go_wp2_with fail
        go_ret
        exact ⟨rfl, HBwr0.out⟩
      | succ m0 =>
        have hlt0 : k0 < a.length := by omega
        have hc0 : decide ((k0 : Int) < ((a.length : Nat) : Int)) = true := by simp; omega
        replace H := cnt_succ H
        unfold l0 at H
        go_wp2_with fail
        replace H := idx_hid H
        obtain ⟨nt_14, yt_14, et_14, lt_14, gt_14, H⟩ := H
        obtain rfl : k0 = nt_14 := by omega
        clear et_14
        obtain ⟨t_14_id, t_14_day, t_14_zone, t_14_grams, t_14_paid, t_14_from_, t_14_to_, t_14_leave, t_14_arrive⟩ := yt_14
        replace H := unCover_hid H
        obtain ⟨ab_t_14, ao_t_14, zt_14, At_14, z_t_14, ct_14_0, ct_14_1, ct_14_2, ct_14_3, ct_14_4, ct_14_5, ct_14_6, ct_14_7, ct_14_8⟩ := Go.Proofs.Ytlljmgphgmklcaa.OCover.at_ M0.out lt_14
        obtain rfl := Option.some.inj (gt_14.out.symm.trans z_t_14)
        subst At_14
        have ltt_14 := cell_lt ct_14_0
        replace ct_14_0 := cell_below HBwr0.out ct_14_0
        replace ct_14_1 := cell_below HBwr0.out ct_14_1
        replace ct_14_2 := cell_below HBwr0.out ct_14_2
        replace ct_14_3 := cell_below HBwr0.out ct_14_3
        replace ct_14_4 := cell_below HBwr0.out ct_14_4
        replace ct_14_5 := cell_below HBwr0.out ct_14_5
        replace ct_14_6 := cell_below HBwr0.out ct_14_6
        replace ct_14_7 := cell_below HBwr0.out ct_14_7
        replace ct_14_8 := cell_below HBwr0.out ct_14_8
        clear z_t_14
        have b0t_14 : (0 : Int) ≤ (k0 : Int) := by omega
        have b1t_14 : (k0 : Int) < ((a.length : Nat) : Int) := by omega
        have b2t_14 : ((k0 : Int)).toNat = k0 := by omega
        have Hct_14_0 := Lib.hid ct_14_0
        replace ct_14_0 := cell_regrown ct_14_0
        have Hct_14_1 := Lib.hid ct_14_1
        replace ct_14_1 := cell_regrown ct_14_1
        have Hct_14_2 := Lib.hid ct_14_2
        replace ct_14_2 := cell_regrown ct_14_2
        have Hct_14_3 := Lib.hid ct_14_3
        replace ct_14_3 := cell_regrown ct_14_3
        have Hct_14_4 := Lib.hid ct_14_4
        replace ct_14_4 := cell_regrown ct_14_4
        have Hct_14_5 := Lib.hid ct_14_5
        replace ct_14_5 := cell_regrown ct_14_5
        have Hct_14_6 := Lib.hid ct_14_6
        replace ct_14_6 := cell_regrown ct_14_6
        have Hct_14_7 := Lib.hid ct_14_7
        replace ct_14_7 := cell_regrown ct_14_7
        have Hct_14_8 := Lib.hid ct_14_8
        replace ct_14_8 := cell_regrown ct_14_8
        replace H := idx_hid H
        obtain ⟨nt_18, yt_18, et_18, lt_18, gt_18, H⟩ := H
        obtain rfl : k0 = nt_18 := by omega
        clear et_18
        obtain ⟨t_18_id, t_18_day, t_18_zone, t_18_grams, t_18_paid, t_18_from_, t_18_to_, t_18_leave, t_18_arrive⟩ := yt_18
        replace H := unCover_hid H
        obtain ⟨ab_t_18, ao_t_18, zt_18, At_18, z_t_18, ct_18_0, ct_18_1, ct_18_2, ct_18_3, ct_18_4, ct_18_5, ct_18_6, ct_18_7, ct_18_8⟩ := Go.Proofs.Ytlljmgphgmklcaa.OCover.at_ M1.out lt_18
        obtain rfl := Option.some.inj (gt_18.out.symm.trans z_t_18)
        subst At_18
        have ltt_18 := cell_lt ct_18_0
        replace ct_18_0 := cell_below HBwr0.out ct_18_0
        replace ct_18_1 := cell_below HBwr0.out ct_18_1
        replace ct_18_2 := cell_below HBwr0.out ct_18_2
        replace ct_18_3 := cell_below HBwr0.out ct_18_3
        replace ct_18_4 := cell_below HBwr0.out ct_18_4
        replace ct_18_5 := cell_below HBwr0.out ct_18_5
        replace ct_18_6 := cell_below HBwr0.out ct_18_6
        replace ct_18_7 := cell_below HBwr0.out ct_18_7
        replace ct_18_8 := cell_below HBwr0.out ct_18_8
        clear z_t_18
        have b0t_18 : (0 : Int) ≤ (k0 : Int) := by omega
        have b1t_18 : (k0 : Int) < ((b.length : Nat) : Int) := by omega
        have b2t_18 : ((k0 : Int)).toNat = k0 := by omega
        have Hct_18_0 := Lib.hid ct_18_0
        replace ct_18_0 := cell_regrown ct_18_0
        have Hct_18_1 := Lib.hid ct_18_1
        replace ct_18_1 := cell_regrown ct_18_1
        have Hct_18_2 := Lib.hid ct_18_2
        replace ct_18_2 := cell_regrown ct_18_2
        have Hct_18_3 := Lib.hid ct_18_3
        replace ct_18_3 := cell_regrown ct_18_3
        have Hct_18_4 := Lib.hid ct_18_4
        replace ct_18_4 := cell_regrown ct_18_4
        have Hct_18_5 := Lib.hid ct_18_5
        replace ct_18_5 := cell_regrown ct_18_5
        have Hct_18_6 := Lib.hid ct_18_6
        replace ct_18_6 := cell_regrown ct_18_6
        have Hct_18_7 := Lib.hid ct_18_7
        replace ct_18_7 := cell_regrown ct_18_7
        have Hct_18_8 := Lib.hid ct_18_8
        replace ct_18_8 := cell_regrown ct_18_8
        replace H := bind_hid H
        obtain ⟨t_20, qt_20, H⟩ := H
        have nt_20 : ∀ d os, Calls Try.prog 88 #[.agg #[.int .i64 t_14_id, .int .i64 t_14_day, .int .i64 t_14_zone, .int .i64 t_14_grams, .int .i64 t_14_paid, .int .i64 t_14_from_, .int .i64 t_14_to_, .int .i64 t_14_leave, .int .i64 t_14_arrive], .agg #[.int .i64 t_18_id, .int .i64 t_18_day, .int .i64 t_18_zone, .int .i64 t_18_grams, .int .i64 t_18_paid, .int .i64 t_18_from_, .int .i64 t_18_to_, .int .i64 t_18_leave, .int .i64 t_18_arrive]] (Go.Sort.grow (redrawn wr0 d) os) fun e w'' => e = .returned (.bool t_20) ∧ ∃ p : Regrown, w'' = Go.Sort.grow (redrawn wr0 p.d) p.os := fun d os => Calls.regrown_of (Go.Proofs.Ytlljmgphgmklcaa.GlEqCover.C ((Go.Proofs.Ytlljmgphgmklcaa.PCover.Cover.mk t_14_id t_14_day t_14_zone t_14_grams t_14_paid t_14_from_ t_14_to_ t_14_leave t_14_arrive)) ((Go.Proofs.Ytlljmgphgmklcaa.PCover.Cover.mk t_18_id t_18_day t_18_zone t_18_grams t_18_paid t_18_from_ t_18_to_ t_18_leave t_18_arrive))  _    qt_20)
        cases t_20 with
        | false =>
          replace H := let_hid H
          obtain ⟨t_21, ht_21, H⟩ := H
          obtain rfl : t_21 = true := ht_21.symm
          refine wp_region_quiet_below (by kernel_rfl) (by kernel_rfl) ?_
          repeat (go_big_quiet_step (first | (go_at_call 88; exact nt_20 _ _)))
          refine wpQuiet_nil ?_
          intro Y6 hY6
          replace hY6 := below_class hY6
          clear nt_20
          replace ct_14_0 := Hct_14_0.out
          clear Hct_14_0
          replace ct_14_1 := Hct_14_1.out
          clear Hct_14_1
          replace ct_14_2 := Hct_14_2.out
          clear Hct_14_2
          replace ct_14_3 := Hct_14_3.out
          clear Hct_14_3
          replace ct_14_4 := Hct_14_4.out
          clear Hct_14_4
          replace ct_14_5 := Hct_14_5.out
          clear Hct_14_5
          replace ct_14_6 := Hct_14_6.out
          clear Hct_14_6
          replace ct_14_7 := Hct_14_7.out
          clear Hct_14_7
          replace ct_14_8 := Hct_14_8.out
          clear Hct_14_8
          replace ct_18_0 := Hct_18_0.out
          clear Hct_18_0
          replace ct_18_1 := Hct_18_1.out
          clear Hct_18_1
          replace ct_18_2 := Hct_18_2.out
          clear Hct_18_2
          replace ct_18_3 := Hct_18_3.out
          clear Hct_18_3
          replace ct_18_4 := Hct_18_4.out
          clear Hct_18_4
          replace ct_18_5 := Hct_18_5.out
          clear Hct_18_5
          replace ct_18_6 := Hct_18_6.out
          clear Hct_18_6
          replace ct_18_7 := Hct_18_7.out
          clear Hct_18_7
          replace ct_18_8 := Hct_18_8.out
          clear Hct_18_8
          have HBY6 := Lib.hid (Below.step HBwr0.out hY6)
          replace ct_14_0 := cell_below hY6 ct_14_0
          replace ct_14_1 := cell_below hY6 ct_14_1
          replace ct_14_2 := cell_below hY6 ct_14_2
          replace ct_14_3 := cell_below hY6 ct_14_3
          replace ct_14_4 := cell_below hY6 ct_14_4
          replace ct_14_5 := cell_below hY6 ct_14_5
          replace ct_14_6 := cell_below hY6 ct_14_6
          replace ct_14_7 := cell_below hY6 ct_14_7
          replace ct_14_8 := cell_below hY6 ct_14_8
          replace ct_18_0 := cell_below hY6 ct_18_0
          replace ct_18_1 := cell_below hY6 ct_18_1
          replace ct_18_2 := cell_below hY6 ct_18_2
          replace ct_18_3 := cell_below hY6 ct_18_3
          replace ct_18_4 := cell_below hY6 ct_18_4
          replace ct_18_5 := cell_below hY6 ct_18_5
          replace ct_18_6 := cell_below hY6 ct_18_6
          replace ct_18_7 := cell_below hY6 ct_18_7
          replace ct_18_8 := cell_below hY6 ct_18_8
          clear hY6
          replace H := ite_t H
          obtain rfl := ret_hid H
          go_wp2_with fail
          go_ret
          exact ⟨rfl, HBY6.out⟩
        | true =>
          replace H := let_hid H
          obtain ⟨t_21, ht_21, H⟩ := H
          obtain rfl : t_21 = false := ht_21.symm
          refine wp_region_quiet_below (by kernel_rfl) (by kernel_rfl) ?_
          repeat (go_big_quiet_step (first | (go_at_call 88; exact nt_20 _ _)))
          refine wpQuiet_nil ?_
          intro Y6 hY6
          replace hY6 := below_class hY6
          clear nt_20
          replace ct_14_0 := Hct_14_0.out
          clear Hct_14_0
          replace ct_14_1 := Hct_14_1.out
          clear Hct_14_1
          replace ct_14_2 := Hct_14_2.out
          clear Hct_14_2
          replace ct_14_3 := Hct_14_3.out
          clear Hct_14_3
          replace ct_14_4 := Hct_14_4.out
          clear Hct_14_4
          replace ct_14_5 := Hct_14_5.out
          clear Hct_14_5
          replace ct_14_6 := Hct_14_6.out
          clear Hct_14_6
          replace ct_14_7 := Hct_14_7.out
          clear Hct_14_7
          replace ct_14_8 := Hct_14_8.out
          clear Hct_14_8
          replace ct_18_0 := Hct_18_0.out
          clear Hct_18_0
          replace ct_18_1 := Hct_18_1.out
          clear Hct_18_1
          replace ct_18_2 := Hct_18_2.out
          clear Hct_18_2
          replace ct_18_3 := Hct_18_3.out
          clear Hct_18_3
          replace ct_18_4 := Hct_18_4.out
          clear Hct_18_4
          replace ct_18_5 := Hct_18_5.out
          clear Hct_18_5
          replace ct_18_6 := Hct_18_6.out
          clear Hct_18_6
          replace ct_18_7 := Hct_18_7.out
          clear Hct_18_7
          replace ct_18_8 := Hct_18_8.out
          clear Hct_18_8
          have HBY6 := Lib.hid (Below.step HBwr0.out hY6)
          replace ct_14_0 := cell_below hY6 ct_14_0
          replace ct_14_1 := cell_below hY6 ct_14_1
          replace ct_14_2 := cell_below hY6 ct_14_2
          replace ct_14_3 := cell_below hY6 ct_14_3
          replace ct_14_4 := cell_below hY6 ct_14_4
          replace ct_14_5 := cell_below hY6 ct_14_5
          replace ct_14_6 := cell_below hY6 ct_14_6
          replace ct_14_7 := cell_below hY6 ct_14_7
          replace ct_14_8 := cell_below hY6 ct_14_8
          replace ct_18_0 := cell_below hY6 ct_18_0
          replace ct_18_1 := cell_below hY6 ct_18_1
          replace ct_18_2 := cell_below hY6 ct_18_2
          replace ct_18_3 := cell_below hY6 ct_18_3
          replace ct_18_4 := cell_below hY6 ct_18_4
          replace ct_18_5 := cell_below hY6 ct_18_5
          replace ct_18_6 := cell_below hY6 ct_18_6
          replace ct_18_7 := cell_below hY6 ct_18_7
          replace ct_18_8 := cell_below hY6 ct_18_8
          clear hY6
          replace H := ite_f H
          replace H := app_hid H
          go_wp2_with fail
          go_roundg m0
          case measure => omega
          case rel => exact ⟨k0 + 1, by omega, by go_num, H, HBY6⟩
  | true =>
    have nht_5 : ¬ (a.length = b.length) := by have := bne_iff_ne.1 ht_5; omega
    replace H := ite_t H
    obtain rfl := ret_hid H
    go_wp2_with fail
    go_ret
    exact ⟨rfl, HB.out⟩
end Go.Proofs.Ytlljmgphgmklcaa.GlEqCoverS

/- loop.example/g01062/laws.markMailS as a plain function, and the contract of the program's: where the plain one has an answer, the program has it. Conditions: slices read as lists. -/
namespace Go.Proofs.Ytlljmgphgmklcaa.GlMarkMailS
set_option linter.unusedVariables false
set_option linter.unusedSimpArgs false
open Go.RowKit
open Go.Proofs.Ytlljmgphgmklcaa.Rowed Go.Proofs.Ytlljmgphgmklcaa.Turn Go.Proofs.Ytlljmgphgmklcaa.Aid Go.Proofs.Ytlljmgphgmklcaa.GoP Go.Proofs.Ytlljmgphgmklcaa.GoM

def l0  (k0 : Nat) (s : (List Go.Proofs.Ytlljmgphgmklcaa.PMail.Mail) × Int) (nx0 bk0 : (List Go.Proofs.Ytlljmgphgmklcaa.PMail.Mail) × Int → Option (Int × (List Go.Proofs.Ytlljmgphgmklcaa.PMail.Mail))) : Option (Int × (List Go.Proofs.Ytlljmgphgmklcaa.PMail.Mail)) :=
  unp2 s fun a_0l0 k_1l0 =>
  Option.bind (idx a_0l0 (k0 : Int)) fun (yt_9 : Go.Proofs.Ytlljmgphgmklcaa.PMail.Mail) =>
  unMail yt_9 fun (t_9_leave : Int) (t_9_from_ : Int) (t_9_to_ : Int) (t_9_arrive : Int) =>
  letK (a_0l0.set k0 (Go.Proofs.Ytlljmgphgmklcaa.PMail.Mail.mk k_1l0 t_9_from_ t_9_to_ t_9_arrive)) fun (l11_11 : (List Go.Proofs.Ytlljmgphgmklcaa.PMail.Mail)) =>
  letK (IntKind.i64.wrap (k_1l0 + 1)) fun (t_13 : Int) =>
  Option.bind (idx l11_11 (k0 : Int)) fun (yt_18 : Go.Proofs.Ytlljmgphgmklcaa.PMail.Mail) =>
  unMail yt_18 fun (t_18_leave : Int) (t_18_from_ : Int) (t_18_to_ : Int) (t_18_arrive : Int) =>
  letK (l11_11.set k0 (Go.Proofs.Ytlljmgphgmklcaa.PMail.Mail.mk t_18_leave t_13 t_18_to_ t_18_arrive)) fun (l20_20 : (List Go.Proofs.Ytlljmgphgmklcaa.PMail.Mail)) =>
  letK (IntKind.i64.wrap (t_13 + 1)) fun (t_22 : Int) =>
  Option.bind (idx l20_20 (k0 : Int)) fun (yt_27 : Go.Proofs.Ytlljmgphgmklcaa.PMail.Mail) =>
  unMail yt_27 fun (t_27_leave : Int) (t_27_from_ : Int) (t_27_to_ : Int) (t_27_arrive : Int) =>
  letK (l20_20.set k0 (Go.Proofs.Ytlljmgphgmklcaa.PMail.Mail.mk t_27_leave t_27_from_ t_22 t_27_arrive)) fun (l29_29 : (List Go.Proofs.Ytlljmgphgmklcaa.PMail.Mail)) =>
  letK (IntKind.i64.wrap (t_22 + 1)) fun (t_31 : Int) =>
  Option.bind (idx l29_29 (k0 : Int)) fun (yt_36 : Go.Proofs.Ytlljmgphgmklcaa.PMail.Mail) =>
  unMail yt_36 fun (t_36_leave : Int) (t_36_from_ : Int) (t_36_to_ : Int) (t_36_arrive : Int) =>
  letK (l29_29.set k0 (Go.Proofs.Ytlljmgphgmklcaa.PMail.Mail.mk t_36_leave t_36_from_ t_36_to_ t_31)) fun (l38_38 : (List Go.Proofs.Ytlljmgphgmklcaa.PMail.Mail)) =>
  letK (IntKind.i64.wrap (t_31 + 1)) fun (t_40 : Int) =>
  appK nx0 (l38_38, t_40)

def e0  (s : (List Go.Proofs.Ytlljmgphgmklcaa.PMail.Mail) × Int) : Option (Int × (List Go.Proofs.Ytlljmgphgmklcaa.PMail.Mail)) :=
  unp2 s fun a_0l0 k_1l0 =>
  some (k_1l0, a_0l0)

def P (a : (List Go.Proofs.Ytlljmgphgmklcaa.PMail.Mail)) (k_1 : Int) : Option (Int × (List Go.Proofs.Ytlljmgphgmklcaa.PMail.Mail)) :=
  cntK (l0 ) (a.length) 0 (a, k_1) (e0 )

set_option maxRecDepth 100000 in
set_option maxHeartbeats 2000000 in
theorem C (a : (List Go.Proofs.Ytlljmgphgmklcaa.PMail.Mail)) (k_1 : Int) (A0 : Option Addr) (c0 : Nat)  (b0 : Nat) (w : World) (M0 : Hid (w.ownsRow b0 108 4 (.slice A0 a.length c0) a.length (Go.Proofs.Ytlljmgphgmklcaa.PMail.flat a))) (N0 : Hid (a.length ≤ 9223372036854775807))  {r : Int} {l_ : (List Go.Proofs.Ytlljmgphgmklcaa.PMail.Mail)} (H : Hid (P a k_1 = some (r, l_))) :
    Calls Try.prog 36 #[.slice A0 a.length c0, .int .i64 k_1] w (fun e w' => e = .returned (.int .i64 r) ∧ w'.ownsRow b0 108 4 (.slice A0 a.length c0) a.length (Go.Proofs.Ytlljmgphgmklcaa.PMail.flat l_) ∧ l_.length = a.length ∧ w.grownBy w' (Value.slice A0 a.length c0).ownBlock) := by
  have HB := Lib.hid (Aid.grown_refl w (Value.slice A0 a.length c0).ownBlock)
  unfold P at H
  have N0o := N0.out
  go_enter Try.func36, Try.ntmps36
  go_wp2_with fail
  have hb_0 : a.length ≤ 9223372036854775807 := own_max M0.out
  go_wp2_with fail
  go_loopg [5, 1] (a.length) (fun m_ v5_ v1_ wr => ∃ (k0 : Nat) (a_0l0 : (List Go.Proofs.Ytlljmgphgmklcaa.PMail.Mail)) (k_1l0 : Int), k0 + m_ = a.length ∧ v5_ = .int .i64 (k0 : Int) ∧ v1_ = .int .i64 k_1l0 ∧ Hid (cntK (l0 ) m_ k0 (a_0l0, k_1l0) (e0 ) = some (r, l_)) ∧ Hid (w.grownBy wr (Value.slice A0 a.length c0).ownBlock) ∧ Hid (wr.ownsRow b0 108 4 (.slice A0 a.length c0) a.length (Go.Proofs.Ytlljmgphgmklcaa.PMail.flat a_0l0)) ∧ Hid (a_0l0.length = a.length))
  case atStart => exact ⟨0, _, _, by omega, rfl, rfl, H, HB, M0, Lib.hid (rfl)⟩
  case round =>
    obtain ⟨k0, a_0l0, k_1l0, hkm0, rfl, rfl, H, HBwr0, Oa_0l0, hna_0l0⟩ := hrel
    rename World => wr0
    cases gk with
    | zero =>
      obtain rfl : k0 = a.length := by omega
      have hc0 : decide (((a.length : Nat) : Int) < ((a.length : Nat) : Int)) = false := by simp
      replace H := cnt_zero H
      unfold e0 at H
      replace H := unp2_hid H
      cases ret_hid H
      go_wp2_with fail
      go_ret
      exact ⟨rfl, Oa_0l0.out, hna_0l0.out, HBwr0.out⟩
    | succ m0 =>
      have hlt0 : k0 < a.length := by omega
      have hc0 : decide ((k0 : Int) < ((a.length : Nat) : Int)) = true := by simp; omega
      replace H := cnt_succ H
      unfold l0 at H
      replace H := unp2_hid H
      replace H := idx_hid H
      obtain ⟨nt_9, yt_9, et_9, lt_9, gt_9, H⟩ := H
      obtain rfl : k0 = nt_9 := by omega
      clear et_9
      obtain ⟨t_9_leave, t_9_from_, t_9_to_, t_9_arrive⟩ := yt_9
      replace H := unMail_hid H
      have hqt_9 := hna_0l0.out
      obtain ⟨qt_9, Qt_9⟩ := own_some Oa_0l0.out (by omega)
      subst Qt_9
      obtain ⟨ab_t_9, ao_t_9, zt_9, At_9, z_t_9, ct_9_0, ct_9_1, ct_9_2, ct_9_3⟩ := Go.Proofs.Ytlljmgphgmklcaa.OMail.at_ (own_cells Oa_0l0.out) (k := k0) (by omega)
      obtain rfl := Option.some.inj (gt_9.out.symm.trans z_t_9)
      simp only [Option.some.injEq, Addr.mk.injEq] at At_9
      obtain ⟨rfl, rfl, _⟩ := At_9
      clear z_t_9
      simp only [Nat.zero_add] at ct_9_0 ct_9_1 ct_9_2 ct_9_3
      have b0t_9 : (0 : Int) ≤ (k0 : Int) := by omega
      have b1t_9 : (k0 : Int) < ((a.length : Nat) : Int) := by omega
      have b2t_9 : ((k0 : Int)).toNat = k0 := by omega
      clear hqt_9
      replace H := let_hid H
      obtain ⟨l11_11, hl11_11, H⟩ := H
      try simp only [Int.toNat_natCast] at hl11_11
      obtain ⟨wl11_11, hwl11_11⟩ : ∃ x, (wr0).setCell ⟨qt_9, k0 * 4, none⟩ (.int .i64 k_1l0) = x := ⟨_, rfl⟩
      have z0l11_11 := Oa_0l0.out.frozenAt (k0 * 4)
      have Sl11_11 := Lib.hid (own_stores [(k0 * 4, .int .i64 k_1l0)] Oa_0l0.out)
      have nl11_11 : Hid (l11_11.length = a.length) := Lib.hid (by rw [← hl11_11, List.length_set]; exact hna_0l0.out)
      have Pl11_11 : Hid (wl11_11.ownsRow b0 108 4 (.slice (some ⟨qt_9, 0, none⟩) a.length c0) a.length (Go.Proofs.Ytlljmgphgmklcaa.PMail.flat l11_11)) := Lib.hid (by have es_ := set_self gt_9.out; have e0_ := flat_set Go.Proofs.Ytlljmgphgmklcaa.PMail.Mail.cells 4 (fun _ => rfl) a_0l0 (k0) 0 (Go.Proofs.Ytlljmgphgmklcaa.PMail.Mail.mk t_9_leave t_9_from_ t_9_to_ t_9_arrive) (Go.Proofs.Ytlljmgphgmklcaa.PMail.Mail.mk k_1l0 t_9_from_ t_9_to_ t_9_arrive) (.int .i64 k_1l0) lt_9 (by decide) rfl; rw [es_] at e0_; have e_ : ([(k0 * 4, .int .i64 k_1l0)] : List (Nat × Value)).foldl (fun xs p => xs.set p.1 p.2) (Go.Proofs.Ytlljmgphgmklcaa.PMail.flat a_0l0) = (Go.Proofs.Ytlljmgphgmklcaa.PMail.flat l11_11) := (by rw [← hl11_11]; show _ = List.flatMap Go.Proofs.Ytlljmgphgmklcaa.PMail.Mail.cells _; first | (rw [← e0_]; first | done | rfl)); rw [← hwl11_11, ← e_]; exact Sl11_11.out.1)
      have Gl11_11 : Hid (wr0.grownBy wl11_11 (Value.slice (some ⟨qt_9, 0, none⟩) a.length c0).ownBlock) := Lib.hid (by rw [← hwl11_11]; exact Sl11_11.out.2)
      have HBwl11_11 := Lib.hid (Aid.grown_tr HBwr0.out Gl11_11.out)
      have hhl11_11 := Lib.hid hl11_11
      clear hl11_11 Sl11_11
      clear Oa_0l0 Gl11_11
      replace H := let_hid H
      obtain ⟨t_13, ht_13, H⟩ := H
      replace H := idx_hid H
      obtain ⟨nt_18, yt_18, et_18, lt_18, gt_18, H⟩ := H
      obtain rfl : k0 = nt_18 := by omega
      clear et_18
      obtain ⟨t_18_leave, t_18_from_, t_18_to_, t_18_arrive⟩ := yt_18
      replace H := unMail_hid H
      have hqt_18 := nl11_11.out
      obtain ⟨ab_t_18, ao_t_18, zt_18, At_18, z_t_18, ct_18_0, ct_18_1, ct_18_2, ct_18_3⟩ := Go.Proofs.Ytlljmgphgmklcaa.OMail.at_ (own_cells Pl11_11.out) (k := k0) (by omega)
      obtain rfl := Option.some.inj (gt_18.out.symm.trans z_t_18)
      simp only [Option.some.injEq, Addr.mk.injEq] at At_18
      obtain ⟨rfl, rfl, _⟩ := At_18
      clear z_t_18
      simp only [Nat.zero_add] at ct_18_0 ct_18_1 ct_18_2 ct_18_3
      have b0t_18 : (0 : Int) ≤ (k0 : Int) := by omega
      have b1t_18 : (k0 : Int) < ((a.length : Nat) : Int) := by omega
      have b2t_18 : ((k0 : Int)).toNat = k0 := by omega
      clear hqt_18
      replace H := let_hid H
      obtain ⟨l20_20, hl20_20, H⟩ := H
      try simp only [Int.toNat_natCast] at hl20_20
      obtain ⟨wl20_20, hwl20_20⟩ : ∃ x, (wl11_11).setCell ⟨qt_9, k0 * 4 + 1, none⟩ (.int .i64 t_13) = x := ⟨_, rfl⟩
      have z0l20_20 := Pl11_11.out.frozenAt (k0 * 4 + 1)
      have Sl20_20 := Lib.hid (own_stores [(k0 * 4 + 1, .int .i64 t_13)] Pl11_11.out)
      have nl20_20 : Hid (l20_20.length = a.length) := Lib.hid (by rw [← hl20_20, List.length_set]; exact nl11_11.out)
      have Pl20_20 : Hid (wl20_20.ownsRow b0 108 4 (.slice (some ⟨qt_9, 0, none⟩) a.length c0) a.length (Go.Proofs.Ytlljmgphgmklcaa.PMail.flat l20_20)) := Lib.hid (by have es_ := set_self gt_18.out; have e0_ := flat_set Go.Proofs.Ytlljmgphgmklcaa.PMail.Mail.cells 4 (fun _ => rfl) l11_11 (k0) 1 (Go.Proofs.Ytlljmgphgmklcaa.PMail.Mail.mk t_18_leave t_18_from_ t_18_to_ t_18_arrive) (Go.Proofs.Ytlljmgphgmklcaa.PMail.Mail.mk t_18_leave t_13 t_18_to_ t_18_arrive) (.int .i64 t_13) lt_18 (by decide) rfl; rw [es_] at e0_; have e_ : ([(k0 * 4 + 1, .int .i64 t_13)] : List (Nat × Value)).foldl (fun xs p => xs.set p.1 p.2) (Go.Proofs.Ytlljmgphgmklcaa.PMail.flat l11_11) = (Go.Proofs.Ytlljmgphgmklcaa.PMail.flat l20_20) := (by rw [← hl20_20]; show _ = List.flatMap Go.Proofs.Ytlljmgphgmklcaa.PMail.Mail.cells _; first | (rw [← e0_]; first | done | rfl)); rw [← hwl20_20, ← e_]; exact Sl20_20.out.1)
      have Gl20_20 : Hid (wl11_11.grownBy wl20_20 (Value.slice (some ⟨qt_9, 0, none⟩) a.length c0).ownBlock) := Lib.hid (by rw [← hwl20_20]; exact Sl20_20.out.2)
      have HBwl20_20 := Lib.hid (Aid.grown_tr HBwl11_11.out Gl20_20.out)
      have hhl20_20 := Lib.hid hl20_20
      clear hl20_20 Sl20_20
      clear Pl11_11 Gl20_20
      replace H := let_hid H
      obtain ⟨t_22, ht_22, H⟩ := H
      replace H := idx_hid H
      obtain ⟨nt_27, yt_27, et_27, lt_27, gt_27, H⟩ := H
      obtain rfl : k0 = nt_27 := by omega
      clear et_27
      obtain ⟨t_27_leave, t_27_from_, t_27_to_, t_27_arrive⟩ := yt_27
      replace H := unMail_hid H
      have hqt_27 := nl20_20.out
      obtain ⟨ab_t_27, ao_t_27, zt_27, At_27, z_t_27, ct_27_0, ct_27_1, ct_27_2, ct_27_3⟩ := Go.Proofs.Ytlljmgphgmklcaa.OMail.at_ (own_cells Pl20_20.out) (k := k0) (by omega)
      obtain rfl := Option.some.inj (gt_27.out.symm.trans z_t_27)
      simp only [Option.some.injEq, Addr.mk.injEq] at At_27
      obtain ⟨rfl, rfl, _⟩ := At_27
      clear z_t_27
      simp only [Nat.zero_add] at ct_27_0 ct_27_1 ct_27_2 ct_27_3
      have b0t_27 : (0 : Int) ≤ (k0 : Int) := by omega
      have b1t_27 : (k0 : Int) < ((a.length : Nat) : Int) := by omega
      have b2t_27 : ((k0 : Int)).toNat = k0 := by omega
      clear hqt_27
      replace H := let_hid H
      obtain ⟨l29_29, hl29_29, H⟩ := H
      try simp only [Int.toNat_natCast] at hl29_29
      obtain ⟨wl29_29, hwl29_29⟩ : ∃ x, (wl20_20).setCell ⟨qt_9, k0 * 4 + 2, none⟩ (.int .i64 t_22) = x := ⟨_, rfl⟩
      have z0l29_29 := Pl20_20.out.frozenAt (k0 * 4 + 2)
      have Sl29_29 := Lib.hid (own_stores [(k0 * 4 + 2, .int .i64 t_22)] Pl20_20.out)
      have nl29_29 : Hid (l29_29.length = a.length) := Lib.hid (by rw [← hl29_29, List.length_set]; exact nl20_20.out)
      have Pl29_29 : Hid (wl29_29.ownsRow b0 108 4 (.slice (some ⟨qt_9, 0, none⟩) a.length c0) a.length (Go.Proofs.Ytlljmgphgmklcaa.PMail.flat l29_29)) := Lib.hid (by have es_ := set_self gt_27.out; have e0_ := flat_set Go.Proofs.Ytlljmgphgmklcaa.PMail.Mail.cells 4 (fun _ => rfl) l20_20 (k0) 2 (Go.Proofs.Ytlljmgphgmklcaa.PMail.Mail.mk t_27_leave t_27_from_ t_27_to_ t_27_arrive) (Go.Proofs.Ytlljmgphgmklcaa.PMail.Mail.mk t_27_leave t_27_from_ t_22 t_27_arrive) (.int .i64 t_22) lt_27 (by decide) rfl; rw [es_] at e0_; have e_ : ([(k0 * 4 + 2, .int .i64 t_22)] : List (Nat × Value)).foldl (fun xs p => xs.set p.1 p.2) (Go.Proofs.Ytlljmgphgmklcaa.PMail.flat l20_20) = (Go.Proofs.Ytlljmgphgmklcaa.PMail.flat l29_29) := (by rw [← hl29_29]; show _ = List.flatMap Go.Proofs.Ytlljmgphgmklcaa.PMail.Mail.cells _; first | (rw [← e0_]; first | done | rfl)); rw [← hwl29_29, ← e_]; exact Sl29_29.out.1)
      have Gl29_29 : Hid (wl20_20.grownBy wl29_29 (Value.slice (some ⟨qt_9, 0, none⟩) a.length c0).ownBlock) := Lib.hid (by rw [← hwl29_29]; exact Sl29_29.out.2)
      have HBwl29_29 := Lib.hid (Aid.grown_tr HBwl20_20.out Gl29_29.out)
      have hhl29_29 := Lib.hid hl29_29
      clear hl29_29 Sl29_29
      clear Pl20_20 Gl29_29
      replace H := let_hid H
      obtain ⟨t_31, ht_31, H⟩ := H
      replace H := idx_hid H
      obtain ⟨nt_36, yt_36, et_36, lt_36, gt_36, H⟩ := H
      obtain rfl : k0 = nt_36 := by omega
      clear et_36
      obtain ⟨t_36_leave, t_36_from_, t_36_to_, t_36_arrive⟩ := yt_36
      replace H := unMail_hid H
      have hqt_36 := nl29_29.out
      obtain ⟨ab_t_36, ao_t_36, zt_36, At_36, z_t_36, ct_36_0, ct_36_1, ct_36_2, ct_36_3⟩ := Go.Proofs.Ytlljmgphgmklcaa.OMail.at_ (own_cells Pl29_29.out) (k := k0) (by omega)
      obtain rfl := Option.some.inj (gt_36.out.symm.trans z_t_36)
      simp only [Option.some.injEq, Addr.mk.injEq] at At_36
      obtain ⟨rfl, rfl, _⟩ := At_36
      clear z_t_36
      simp only [Nat.zero_add] at ct_36_0 ct_36_1 ct_36_2 ct_36_3
      have b0t_36 : (0 : Int) ≤ (k0 : Int) := by omega
      have b1t_36 : (k0 : Int) < ((a.length : Nat) : Int) := by omega
      have b2t_36 : ((k0 : Int)).toNat = k0 := by omega
      clear hqt_36
      replace H := let_hid H
      obtain ⟨l38_38, hl38_38, H⟩ := H
      try simp only [Int.toNat_natCast] at hl38_38
      obtain ⟨wl38_38, hwl38_38⟩ : ∃ x, (wl29_29).setCell ⟨qt_9, k0 * 4 + 3, none⟩ (.int .i64 t_31) = x := ⟨_, rfl⟩
      have z0l38_38 := Pl29_29.out.frozenAt (k0 * 4 + 3)
      have Sl38_38 := Lib.hid (own_stores [(k0 * 4 + 3, .int .i64 t_31)] Pl29_29.out)
      have nl38_38 : Hid (l38_38.length = a.length) := Lib.hid (by rw [← hl38_38, List.length_set]; exact nl29_29.out)
      have Pl38_38 : Hid (wl38_38.ownsRow b0 108 4 (.slice (some ⟨qt_9, 0, none⟩) a.length c0) a.length (Go.Proofs.Ytlljmgphgmklcaa.PMail.flat l38_38)) := Lib.hid (by have es_ := set_self gt_36.out; have e0_ := flat_set Go.Proofs.Ytlljmgphgmklcaa.PMail.Mail.cells 4 (fun _ => rfl) l29_29 (k0) 3 (Go.Proofs.Ytlljmgphgmklcaa.PMail.Mail.mk t_36_leave t_36_from_ t_36_to_ t_36_arrive) (Go.Proofs.Ytlljmgphgmklcaa.PMail.Mail.mk t_36_leave t_36_from_ t_36_to_ t_31) (.int .i64 t_31) lt_36 (by decide) rfl; rw [es_] at e0_; have e_ : ([(k0 * 4 + 3, .int .i64 t_31)] : List (Nat × Value)).foldl (fun xs p => xs.set p.1 p.2) (Go.Proofs.Ytlljmgphgmklcaa.PMail.flat l29_29) = (Go.Proofs.Ytlljmgphgmklcaa.PMail.flat l38_38) := (by rw [← hl38_38]; show _ = List.flatMap Go.Proofs.Ytlljmgphgmklcaa.PMail.Mail.cells _; first | (rw [← e0_]; first | done | rfl)); rw [← hwl38_38, ← e_]; exact Sl38_38.out.1)
      have Gl38_38 : Hid (wl29_29.grownBy wl38_38 (Value.slice (some ⟨qt_9, 0, none⟩) a.length c0).ownBlock) := Lib.hid (by rw [← hwl38_38]; exact Sl38_38.out.2)
      have HBwl38_38 := Lib.hid (Aid.grown_tr HBwl29_29.out Gl38_38.out)
      have hhl38_38 := Lib.hid hl38_38
      clear hl38_38 Sl38_38
      clear Pl29_29 Gl38_38
      replace H := let_hid H
      obtain ⟨t_40, ht_40, H⟩ := H
      replace H := app_hid H
      go_wp2_with fail
      clear z0l11_11 ct_9_0 ct_9_1 ct_9_2 ct_9_3 z0l20_20 ct_18_0 ct_18_1 ct_18_2 ct_18_3 z0l29_29 ct_27_0 ct_27_1 ct_27_2 ct_27_3 z0l38_38 ct_36_0 ct_36_1 ct_36_2 ct_36_3
      go_roundg m0
      case measure => omega
      case rel => exact ⟨k0 + 1, _, _, by omega, by go_num, rfl, H, HBwl38_38, Pl38_38, Lib.hid (nl38_38.out)⟩
end Go.Proofs.Ytlljmgphgmklcaa.GlMarkMailS

/- loop.example/g01062/laws.markCoverS as a plain function, and the contract of the program's: where the plain one has an answer, the program has it. Conditions: slices read as lists. -/
namespace Go.Proofs.Ytlljmgphgmklcaa.GlMarkCoverS
set_option linter.unusedVariables false
set_option linter.unusedSimpArgs false
open Go.RowKit
open Go.Proofs.Ytlljmgphgmklcaa.Rowed Go.Proofs.Ytlljmgphgmklcaa.Turn Go.Proofs.Ytlljmgphgmklcaa.Aid Go.Proofs.Ytlljmgphgmklcaa.GoP Go.Proofs.Ytlljmgphgmklcaa.GoM

def l0  (k0 : Nat) (s : (List Go.Proofs.Ytlljmgphgmklcaa.PCover.Cover) × Int) (nx0 bk0 : (List Go.Proofs.Ytlljmgphgmklcaa.PCover.Cover) × Int → Option (Int × (List Go.Proofs.Ytlljmgphgmklcaa.PCover.Cover))) : Option (Int × (List Go.Proofs.Ytlljmgphgmklcaa.PCover.Cover)) :=
  unp2 s fun a_0l0 k_1l0 =>
  Option.bind (idx a_0l0 (k0 : Int)) fun (yt_9 : Go.Proofs.Ytlljmgphgmklcaa.PCover.Cover) =>
  unCover yt_9 fun (t_9_id : Int) (t_9_day : Int) (t_9_zone : Int) (t_9_grams : Int) (t_9_paid : Int) (t_9_from_ : Int) (t_9_to_ : Int) (t_9_leave : Int) (t_9_arrive : Int) =>
  letK (a_0l0.set k0 (Go.Proofs.Ytlljmgphgmklcaa.PCover.Cover.mk k_1l0 t_9_day t_9_zone t_9_grams t_9_paid t_9_from_ t_9_to_ t_9_leave t_9_arrive)) fun (l11_11 : (List Go.Proofs.Ytlljmgphgmklcaa.PCover.Cover)) =>
  letK (IntKind.i64.wrap (k_1l0 + 1)) fun (t_13 : Int) =>
  Option.bind (idx l11_11 (k0 : Int)) fun (yt_18 : Go.Proofs.Ytlljmgphgmklcaa.PCover.Cover) =>
  unCover yt_18 fun (t_18_id : Int) (t_18_day : Int) (t_18_zone : Int) (t_18_grams : Int) (t_18_paid : Int) (t_18_from_ : Int) (t_18_to_ : Int) (t_18_leave : Int) (t_18_arrive : Int) =>
  letK (l11_11.set k0 (Go.Proofs.Ytlljmgphgmklcaa.PCover.Cover.mk t_18_id t_13 t_18_zone t_18_grams t_18_paid t_18_from_ t_18_to_ t_18_leave t_18_arrive)) fun (l20_20 : (List Go.Proofs.Ytlljmgphgmklcaa.PCover.Cover)) =>
  letK (IntKind.i64.wrap (t_13 + 1)) fun (t_22 : Int) =>
  Option.bind (idx l20_20 (k0 : Int)) fun (yt_27 : Go.Proofs.Ytlljmgphgmklcaa.PCover.Cover) =>
  unCover yt_27 fun (t_27_id : Int) (t_27_day : Int) (t_27_zone : Int) (t_27_grams : Int) (t_27_paid : Int) (t_27_from_ : Int) (t_27_to_ : Int) (t_27_leave : Int) (t_27_arrive : Int) =>
  letK (l20_20.set k0 (Go.Proofs.Ytlljmgphgmklcaa.PCover.Cover.mk t_27_id t_27_day t_22 t_27_grams t_27_paid t_27_from_ t_27_to_ t_27_leave t_27_arrive)) fun (l29_29 : (List Go.Proofs.Ytlljmgphgmklcaa.PCover.Cover)) =>
  letK (IntKind.i64.wrap (t_22 + 1)) fun (t_31 : Int) =>
  Option.bind (idx l29_29 (k0 : Int)) fun (yt_36 : Go.Proofs.Ytlljmgphgmklcaa.PCover.Cover) =>
  unCover yt_36 fun (t_36_id : Int) (t_36_day : Int) (t_36_zone : Int) (t_36_grams : Int) (t_36_paid : Int) (t_36_from_ : Int) (t_36_to_ : Int) (t_36_leave : Int) (t_36_arrive : Int) =>
  letK (l29_29.set k0 (Go.Proofs.Ytlljmgphgmklcaa.PCover.Cover.mk t_36_id t_36_day t_36_zone t_31 t_36_paid t_36_from_ t_36_to_ t_36_leave t_36_arrive)) fun (l38_38 : (List Go.Proofs.Ytlljmgphgmklcaa.PCover.Cover)) =>
  letK (IntKind.i64.wrap (t_31 + 1)) fun (t_40 : Int) =>
  Option.bind (idx l38_38 (k0 : Int)) fun (yt_45 : Go.Proofs.Ytlljmgphgmklcaa.PCover.Cover) =>
  unCover yt_45 fun (t_45_id : Int) (t_45_day : Int) (t_45_zone : Int) (t_45_grams : Int) (t_45_paid : Int) (t_45_from_ : Int) (t_45_to_ : Int) (t_45_leave : Int) (t_45_arrive : Int) =>
  letK (l38_38.set k0 (Go.Proofs.Ytlljmgphgmklcaa.PCover.Cover.mk t_45_id t_45_day t_45_zone t_45_grams t_40 t_45_from_ t_45_to_ t_45_leave t_45_arrive)) fun (l47_47 : (List Go.Proofs.Ytlljmgphgmklcaa.PCover.Cover)) =>
  letK (IntKind.i64.wrap (t_40 + 1)) fun (t_49 : Int) =>
  Option.bind (idx l47_47 (k0 : Int)) fun (yt_54 : Go.Proofs.Ytlljmgphgmklcaa.PCover.Cover) =>
  unCover yt_54 fun (t_54_id : Int) (t_54_day : Int) (t_54_zone : Int) (t_54_grams : Int) (t_54_paid : Int) (t_54_from_ : Int) (t_54_to_ : Int) (t_54_leave : Int) (t_54_arrive : Int) =>
  letK (l47_47.set k0 (Go.Proofs.Ytlljmgphgmklcaa.PCover.Cover.mk t_54_id t_54_day t_54_zone t_54_grams t_54_paid t_49 t_54_to_ t_54_leave t_54_arrive)) fun (l56_56 : (List Go.Proofs.Ytlljmgphgmklcaa.PCover.Cover)) =>
  letK (IntKind.i64.wrap (t_49 + 1)) fun (t_58 : Int) =>
  Option.bind (idx l56_56 (k0 : Int)) fun (yt_63 : Go.Proofs.Ytlljmgphgmklcaa.PCover.Cover) =>
  unCover yt_63 fun (t_63_id : Int) (t_63_day : Int) (t_63_zone : Int) (t_63_grams : Int) (t_63_paid : Int) (t_63_from_ : Int) (t_63_to_ : Int) (t_63_leave : Int) (t_63_arrive : Int) =>
  letK (l56_56.set k0 (Go.Proofs.Ytlljmgphgmklcaa.PCover.Cover.mk t_63_id t_63_day t_63_zone t_63_grams t_63_paid t_63_from_ t_58 t_63_leave t_63_arrive)) fun (l65_65 : (List Go.Proofs.Ytlljmgphgmklcaa.PCover.Cover)) =>
  letK (IntKind.i64.wrap (t_58 + 1)) fun (t_67 : Int) =>
  Option.bind (idx l65_65 (k0 : Int)) fun (yt_72 : Go.Proofs.Ytlljmgphgmklcaa.PCover.Cover) =>
  unCover yt_72 fun (t_72_id : Int) (t_72_day : Int) (t_72_zone : Int) (t_72_grams : Int) (t_72_paid : Int) (t_72_from_ : Int) (t_72_to_ : Int) (t_72_leave : Int) (t_72_arrive : Int) =>
  letK (l65_65.set k0 (Go.Proofs.Ytlljmgphgmklcaa.PCover.Cover.mk t_72_id t_72_day t_72_zone t_72_grams t_72_paid t_72_from_ t_72_to_ t_67 t_72_arrive)) fun (l74_74 : (List Go.Proofs.Ytlljmgphgmklcaa.PCover.Cover)) =>
  letK (IntKind.i64.wrap (t_67 + 1)) fun (t_76 : Int) =>
  Option.bind (idx l74_74 (k0 : Int)) fun (yt_81 : Go.Proofs.Ytlljmgphgmklcaa.PCover.Cover) =>
  unCover yt_81 fun (t_81_id : Int) (t_81_day : Int) (t_81_zone : Int) (t_81_grams : Int) (t_81_paid : Int) (t_81_from_ : Int) (t_81_to_ : Int) (t_81_leave : Int) (t_81_arrive : Int) =>
  letK (l74_74.set k0 (Go.Proofs.Ytlljmgphgmklcaa.PCover.Cover.mk t_81_id t_81_day t_81_zone t_81_grams t_81_paid t_81_from_ t_81_to_ t_81_leave t_76)) fun (l83_83 : (List Go.Proofs.Ytlljmgphgmklcaa.PCover.Cover)) =>
  letK (IntKind.i64.wrap (t_76 + 1)) fun (t_85 : Int) =>
  appK nx0 (l83_83, t_85)

def e0  (s : (List Go.Proofs.Ytlljmgphgmklcaa.PCover.Cover) × Int) : Option (Int × (List Go.Proofs.Ytlljmgphgmklcaa.PCover.Cover)) :=
  unp2 s fun a_0l0 k_1l0 =>
  some (k_1l0, a_0l0)

def P (a : (List Go.Proofs.Ytlljmgphgmklcaa.PCover.Cover)) (k_1 : Int) : Option (Int × (List Go.Proofs.Ytlljmgphgmklcaa.PCover.Cover)) :=
  cntK (l0 ) (a.length) 0 (a, k_1) (e0 )

set_option maxRecDepth 100000 in
set_option maxHeartbeats 2000000 in
theorem C (a : (List Go.Proofs.Ytlljmgphgmklcaa.PCover.Cover)) (k_1 : Int) (A0 : Option Addr) (c0 : Nat)  (b0 : Nat) (w : World) (M0 : Hid (w.ownsRow b0 25 9 (.slice A0 a.length c0) a.length (Go.Proofs.Ytlljmgphgmklcaa.PCover.flat a))) (N0 : Hid (a.length ≤ 9223372036854775807))  {r : Int} {l_ : (List Go.Proofs.Ytlljmgphgmklcaa.PCover.Cover)} (H : Hid (P a k_1 = some (r, l_))) :
    Calls Try.prog 37 #[.slice A0 a.length c0, .int .i64 k_1] w (fun e w' => e = .returned (.int .i64 r) ∧ w'.ownsRow b0 25 9 (.slice A0 a.length c0) a.length (Go.Proofs.Ytlljmgphgmklcaa.PCover.flat l_) ∧ l_.length = a.length ∧ w.grownBy w' (Value.slice A0 a.length c0).ownBlock) := by
  have HB := Lib.hid (Aid.grown_refl w (Value.slice A0 a.length c0).ownBlock)
  unfold P at H
  have N0o := N0.out
  go_enter Try.func37, Try.ntmps37
  go_wp2_with fail
  have hb_0 : a.length ≤ 9223372036854775807 := own_max M0.out
  go_wp2_with fail
  go_loopg [5, 1] (a.length) (fun m_ v5_ v1_ wr => ∃ (k0 : Nat) (a_0l0 : (List Go.Proofs.Ytlljmgphgmklcaa.PCover.Cover)) (k_1l0 : Int), k0 + m_ = a.length ∧ v5_ = .int .i64 (k0 : Int) ∧ v1_ = .int .i64 k_1l0 ∧ Hid (cntK (l0 ) m_ k0 (a_0l0, k_1l0) (e0 ) = some (r, l_)) ∧ Hid (w.grownBy wr (Value.slice A0 a.length c0).ownBlock) ∧ Hid (wr.ownsRow b0 25 9 (.slice A0 a.length c0) a.length (Go.Proofs.Ytlljmgphgmklcaa.PCover.flat a_0l0)) ∧ Hid (a_0l0.length = a.length))
  case atStart => exact ⟨0, _, _, by omega, rfl, rfl, H, HB, M0, Lib.hid (rfl)⟩
  case round =>
    obtain ⟨k0, a_0l0, k_1l0, hkm0, rfl, rfl, H, HBwr0, Oa_0l0, hna_0l0⟩ := hrel
    rename World => wr0
    cases gk with
    | zero =>
      obtain rfl : k0 = a.length := by omega
      have hc0 : decide (((a.length : Nat) : Int) < ((a.length : Nat) : Int)) = false := by simp
      replace H := cnt_zero H
      unfold e0 at H
      replace H := unp2_hid H
      cases ret_hid H
      go_wp2_with fail
      go_ret
      exact ⟨rfl, Oa_0l0.out, hna_0l0.out, HBwr0.out⟩
    | succ m0 =>
      have hlt0 : k0 < a.length := by omega
      have hc0 : decide ((k0 : Int) < ((a.length : Nat) : Int)) = true := by simp; omega
      replace H := cnt_succ H
      unfold l0 at H
      replace H := unp2_hid H
      replace H := idx_hid H
      obtain ⟨nt_9, yt_9, et_9, lt_9, gt_9, H⟩ := H
      obtain rfl : k0 = nt_9 := by omega
      clear et_9
      obtain ⟨t_9_id, t_9_day, t_9_zone, t_9_grams, t_9_paid, t_9_from_, t_9_to_, t_9_leave, t_9_arrive⟩ := yt_9
      replace H := unCover_hid H
      have hqt_9 := hna_0l0.out
      obtain ⟨qt_9, Qt_9⟩ := own_some Oa_0l0.out (by omega)
      subst Qt_9
      obtain ⟨ab_t_9, ao_t_9, zt_9, At_9, z_t_9, ct_9_0, ct_9_1, ct_9_2, ct_9_3, ct_9_4, ct_9_5, ct_9_6, ct_9_7, ct_9_8⟩ := Go.Proofs.Ytlljmgphgmklcaa.OCover.at_ (own_cells Oa_0l0.out) (k := k0) (by omega)
      obtain rfl := Option.some.inj (gt_9.out.symm.trans z_t_9)
      simp only [Option.some.injEq, Addr.mk.injEq] at At_9
      obtain ⟨rfl, rfl, _⟩ := At_9
      clear z_t_9
      simp only [Nat.zero_add] at ct_9_0 ct_9_1 ct_9_2 ct_9_3 ct_9_4 ct_9_5 ct_9_6 ct_9_7 ct_9_8
      have b0t_9 : (0 : Int) ≤ (k0 : Int) := by omega
      have b1t_9 : (k0 : Int) < ((a.length : Nat) : Int) := by omega
      have b2t_9 : ((k0 : Int)).toNat = k0 := by omega
      clear hqt_9
      replace H := let_hid H
      obtain ⟨l11_11, hl11_11, H⟩ := H
      try simp only [Int.toNat_natCast] at hl11_11
      obtain ⟨wl11_11, hwl11_11⟩ : ∃ x, (wr0).setCell ⟨qt_9, k0 * 9, none⟩ (.int .i64 k_1l0) = x := ⟨_, rfl⟩
      have z0l11_11 := Oa_0l0.out.frozenAt (k0 * 9)
      have Sl11_11 := Lib.hid (own_stores [(k0 * 9, .int .i64 k_1l0)] Oa_0l0.out)
      have nl11_11 : Hid (l11_11.length = a.length) := Lib.hid (by rw [← hl11_11, List.length_set]; exact hna_0l0.out)
      have Pl11_11 : Hid (wl11_11.ownsRow b0 25 9 (.slice (some ⟨qt_9, 0, none⟩) a.length c0) a.length (Go.Proofs.Ytlljmgphgmklcaa.PCover.flat l11_11)) := Lib.hid (by have es_ := set_self gt_9.out; have e0_ := flat_set Go.Proofs.Ytlljmgphgmklcaa.PCover.Cover.cells 9 (fun _ => rfl) a_0l0 (k0) 0 (Go.Proofs.Ytlljmgphgmklcaa.PCover.Cover.mk t_9_id t_9_day t_9_zone t_9_grams t_9_paid t_9_from_ t_9_to_ t_9_leave t_9_arrive) (Go.Proofs.Ytlljmgphgmklcaa.PCover.Cover.mk k_1l0 t_9_day t_9_zone t_9_grams t_9_paid t_9_from_ t_9_to_ t_9_leave t_9_arrive) (.int .i64 k_1l0) lt_9 (by decide) rfl; rw [es_] at e0_; have e_ : ([(k0 * 9, .int .i64 k_1l0)] : List (Nat × Value)).foldl (fun xs p => xs.set p.1 p.2) (Go.Proofs.Ytlljmgphgmklcaa.PCover.flat a_0l0) = (Go.Proofs.Ytlljmgphgmklcaa.PCover.flat l11_11) := (by rw [← hl11_11]; show _ = List.flatMap Go.Proofs.Ytlljmgphgmklcaa.PCover.Cover.cells _; first | (rw [← e0_]; first | done | rfl)); rw [← hwl11_11, ← e_]; exact Sl11_11.out.1)
      have Gl11_11 : Hid (wr0.grownBy wl11_11 (Value.slice (some ⟨qt_9, 0, none⟩) a.length c0).ownBlock) := Lib.hid (by rw [← hwl11_11]; exact Sl11_11.out.2)
      have HBwl11_11 := Lib.hid (Aid.grown_tr HBwr0.out Gl11_11.out)
      have hhl11_11 := Lib.hid hl11_11
      clear hl11_11 Sl11_11
      clear Oa_0l0 Gl11_11
      replace H := let_hid H
      obtain ⟨t_13, ht_13, H⟩ := H
      replace H := idx_hid H
      obtain ⟨nt_18, yt_18, et_18, lt_18, gt_18, H⟩ := H
      obtain rfl : k0 = nt_18 := by omega
      clear et_18
      obtain ⟨t_18_id, t_18_day, t_18_zone, t_18_grams, t_18_paid, t_18_from_, t_18_to_, t_18_leave, t_18_arrive⟩ := yt_18
      replace H := unCover_hid H
      have hqt_18 := nl11_11.out
      obtain ⟨ab_t_18, ao_t_18, zt_18, At_18, z_t_18, ct_18_0, ct_18_1, ct_18_2, ct_18_3, ct_18_4, ct_18_5, ct_18_6, ct_18_7, ct_18_8⟩ := Go.Proofs.Ytlljmgphgmklcaa.OCover.at_ (own_cells Pl11_11.out) (k := k0) (by omega)
      obtain rfl := Option.some.inj (gt_18.out.symm.trans z_t_18)
      simp only [Option.some.injEq, Addr.mk.injEq] at At_18
      obtain ⟨rfl, rfl, _⟩ := At_18
      clear z_t_18
      simp only [Nat.zero_add] at ct_18_0 ct_18_1 ct_18_2 ct_18_3 ct_18_4 ct_18_5 ct_18_6 ct_18_7 ct_18_8
      have b0t_18 : (0 : Int) ≤ (k0 : Int) := by omega
      have b1t_18 : (k0 : Int) < ((a.length : Nat) : Int) := by omega
      have b2t_18 : ((k0 : Int)).toNat = k0 := by omega
      clear hqt_18
      replace H := let_hid H
      obtain ⟨l20_20, hl20_20, H⟩ := H
      try simp only [Int.toNat_natCast] at hl20_20
      obtain ⟨wl20_20, hwl20_20⟩ : ∃ x, (wl11_11).setCell ⟨qt_9, k0 * 9 + 1, none⟩ (.int .i64 t_13) = x := ⟨_, rfl⟩
      have z0l20_20 := Pl11_11.out.frozenAt (k0 * 9 + 1)
      have Sl20_20 := Lib.hid (own_stores [(k0 * 9 + 1, .int .i64 t_13)] Pl11_11.out)
      have nl20_20 : Hid (l20_20.length = a.length) := Lib.hid (by rw [← hl20_20, List.length_set]; exact nl11_11.out)
      have Pl20_20 : Hid (wl20_20.ownsRow b0 25 9 (.slice (some ⟨qt_9, 0, none⟩) a.length c0) a.length (Go.Proofs.Ytlljmgphgmklcaa.PCover.flat l20_20)) := Lib.hid (by have es_ := set_self gt_18.out; have e0_ := flat_set Go.Proofs.Ytlljmgphgmklcaa.PCover.Cover.cells 9 (fun _ => rfl) l11_11 (k0) 1 (Go.Proofs.Ytlljmgphgmklcaa.PCover.Cover.mk t_18_id t_18_day t_18_zone t_18_grams t_18_paid t_18_from_ t_18_to_ t_18_leave t_18_arrive) (Go.Proofs.Ytlljmgphgmklcaa.PCover.Cover.mk t_18_id t_13 t_18_zone t_18_grams t_18_paid t_18_from_ t_18_to_ t_18_leave t_18_arrive) (.int .i64 t_13) lt_18 (by decide) rfl; rw [es_] at e0_; have e_ : ([(k0 * 9 + 1, .int .i64 t_13)] : List (Nat × Value)).foldl (fun xs p => xs.set p.1 p.2) (Go.Proofs.Ytlljmgphgmklcaa.PCover.flat l11_11) = (Go.Proofs.Ytlljmgphgmklcaa.PCover.flat l20_20) := (by rw [← hl20_20]; show _ = List.flatMap Go.Proofs.Ytlljmgphgmklcaa.PCover.Cover.cells _; first | (rw [← e0_]; first | done | rfl)); rw [← hwl20_20, ← e_]; exact Sl20_20.out.1)
      have Gl20_20 : Hid (wl11_11.grownBy wl20_20 (Value.slice (some ⟨qt_9, 0, none⟩) a.length c0).ownBlock) := Lib.hid (by rw [← hwl20_20]; exact Sl20_20.out.2)
      have HBwl20_20 := Lib.hid (Aid.grown_tr HBwl11_11.out Gl20_20.out)
      have hhl20_20 := Lib.hid hl20_20
      clear hl20_20 Sl20_20
      clear Pl11_11 Gl20_20
      replace H := let_hid H
      obtain ⟨t_22, ht_22, H⟩ := H
      replace H := idx_hid H
      obtain ⟨nt_27, yt_27, et_27, lt_27, gt_27, H⟩ := H
      obtain rfl : k0 = nt_27 := by omega
      clear et_27
      obtain ⟨t_27_id, t_27_day, t_27_zone, t_27_grams, t_27_paid, t_27_from_, t_27_to_, t_27_leave, t_27_arrive⟩ := yt_27
      replace H := unCover_hid H
      have hqt_27 := nl20_20.out
      obtain ⟨ab_t_27, ao_t_27, zt_27, At_27, z_t_27, ct_27_0, ct_27_1, ct_27_2, ct_27_3, ct_27_4, ct_27_5, ct_27_6, ct_27_7, ct_27_8⟩ := Go.Proofs.Ytlljmgphgmklcaa.OCover.at_ (own_cells Pl20_20.out) (k := k0) (by omega)
      obtain rfl := Option.some.inj (gt_27.out.symm.trans z_t_27)
      simp only [Option.some.injEq, Addr.mk.injEq] at At_27
      obtain ⟨rfl, rfl, _⟩ := At_27
      clear z_t_27
      simp only [Nat.zero_add] at ct_27_0 ct_27_1 ct_27_2 ct_27_3 ct_27_4 ct_27_5 ct_27_6 ct_27_7 ct_27_8
      have b0t_27 : (0 : Int) ≤ (k0 : Int) := by omega
      have b1t_27 : (k0 : Int) < ((a.length : Nat) : Int) := by omega
      have b2t_27 : ((k0 : Int)).toNat = k0 := by omega
      clear hqt_27
      replace H := let_hid H
      obtain ⟨l29_29, hl29_29, H⟩ := H
      try simp only [Int.toNat_natCast] at hl29_29
      obtain ⟨wl29_29, hwl29_29⟩ : ∃ x, (wl20_20).setCell ⟨qt_9, k0 * 9 + 2, none⟩ (.int .i64 t_22) = x := ⟨_, rfl⟩
      have z0l29_29 := Pl20_20.out.frozenAt (k0 * 9 + 2)
      have Sl29_29 := Lib.hid (own_stores [(k0 * 9 + 2, .int .i64 t_22)] Pl20_20.out)
      have nl29_29 : Hid (l29_29.length = a.length) := Lib.hid (by rw [← hl29_29, List.length_set]; exact nl20_20.out)
      have Pl29_29 : Hid (wl29_29.ownsRow b0 25 9 (.slice (some ⟨qt_9, 0, none⟩) a.length c0) a.length (Go.Proofs.Ytlljmgphgmklcaa.PCover.flat l29_29)) := Lib.hid (by have es_ := set_self gt_27.out; have e0_ := flat_set Go.Proofs.Ytlljmgphgmklcaa.PCover.Cover.cells 9 (fun _ => rfl) l20_20 (k0) 2 (Go.Proofs.Ytlljmgphgmklcaa.PCover.Cover.mk t_27_id t_27_day t_27_zone t_27_grams t_27_paid t_27_from_ t_27_to_ t_27_leave t_27_arrive) (Go.Proofs.Ytlljmgphgmklcaa.PCover.Cover.mk t_27_id t_27_day t_22 t_27_grams t_27_paid t_27_from_ t_27_to_ t_27_leave t_27_arrive) (.int .i64 t_22) lt_27 (by decide) rfl; rw [es_] at e0_; have e_ : ([(k0 * 9 + 2, .int .i64 t_22)] : List (Nat × Value)).foldl (fun xs p => xs.set p.1 p.2) (Go.Proofs.Ytlljmgphgmklcaa.PCover.flat l20_20) = (Go.Proofs.Ytlljmgphgmklcaa.PCover.flat l29_29) := (by rw [← hl29_29]; show _ = List.flatMap Go.Proofs.Ytlljmgphgmklcaa.PCover.Cover.cells _; first | (rw [← e0_]; first | done | rfl)); rw [← hwl29_29, ← e_]; exact Sl29_29.out.1)
      have Gl29_29 : Hid (wl20_20.grownBy wl29_29 (Value.slice (some ⟨qt_9, 0, none⟩) a.length c0).ownBlock) := Lib.hid (by rw [← hwl29_29]; exact Sl29_29.out.2)
      have HBwl29_29 := Lib.hid (Aid.grown_tr HBwl20_20.out Gl29_29.out)
      have hhl29_29 := Lib.hid hl29_29
      clear hl29_29 Sl29_29
      clear Pl20_20 Gl29_29
      replace H := let_hid H
      obtain ⟨t_31, ht_31, H⟩ := H
      replace H := idx_hid H
      obtain ⟨nt_36, yt_36, et_36, lt_36, gt_36, H⟩ := H
      obtain rfl : k0 = nt_36 := by omega
      clear et_36
      obtain ⟨t_36_id, t_36_day, t_36_zone, t_36_grams, t_36_paid, t_36_from_, t_36_to_, t_36_leave, t_36_arrive⟩ := yt_36
      replace H := unCover_hid H
      have hqt_36 := nl29_29.out
      obtain ⟨ab_t_36, ao_t_36, zt_36, At_36, z_t_36, ct_36_0, ct_36_1, ct_36_2, ct_36_3, ct_36_4, ct_36_5, ct_36_6, ct_36_7, ct_36_8⟩ := Go.Proofs.Ytlljmgphgmklcaa.OCover.at_ (own_cells Pl29_29.out) (k := k0) (by omega)
      obtain rfl := Option.some.inj (gt_36.out.symm.trans z_t_36)
      simp only [Option.some.injEq, Addr.mk.injEq] at At_36
      obtain ⟨rfl, rfl, _⟩ := At_36
      clear z_t_36
      simp only [Nat.zero_add] at ct_36_0 ct_36_1 ct_36_2 ct_36_3 ct_36_4 ct_36_5 ct_36_6 ct_36_7 ct_36_8
      have b0t_36 : (0 : Int) ≤ (k0 : Int) := by omega
      have b1t_36 : (k0 : Int) < ((a.length : Nat) : Int) := by omega
      have b2t_36 : ((k0 : Int)).toNat = k0 := by omega
      clear hqt_36
      replace H := let_hid H
      obtain ⟨l38_38, hl38_38, H⟩ := H
      try simp only [Int.toNat_natCast] at hl38_38
      obtain ⟨wl38_38, hwl38_38⟩ : ∃ x, (wl29_29).setCell ⟨qt_9, k0 * 9 + 3, none⟩ (.int .i64 t_31) = x := ⟨_, rfl⟩
      have z0l38_38 := Pl29_29.out.frozenAt (k0 * 9 + 3)
      have Sl38_38 := Lib.hid (own_stores [(k0 * 9 + 3, .int .i64 t_31)] Pl29_29.out)
      have nl38_38 : Hid (l38_38.length = a.length) := Lib.hid (by rw [← hl38_38, List.length_set]; exact nl29_29.out)
      have Pl38_38 : Hid (wl38_38.ownsRow b0 25 9 (.slice (some ⟨qt_9, 0, none⟩) a.length c0) a.length (Go.Proofs.Ytlljmgphgmklcaa.PCover.flat l38_38)) := Lib.hid (by have es_ := set_self gt_36.out; have e0_ := flat_set Go.Proofs.Ytlljmgphgmklcaa.PCover.Cover.cells 9 (fun _ => rfl) l29_29 (k0) 3 (Go.Proofs.Ytlljmgphgmklcaa.PCover.Cover.mk t_36_id t_36_day t_36_zone t_36_grams t_36_paid t_36_from_ t_36_to_ t_36_leave t_36_arrive) (Go.Proofs.Ytlljmgphgmklcaa.PCover.Cover.mk t_36_id t_36_day t_36_zone t_31 t_36_paid t_36_from_ t_36_to_ t_36_leave t_36_arrive) (.int .i64 t_31) lt_36 (by decide) rfl; rw [es_] at e0_; have e_ : ([(k0 * 9 + 3, .int .i64 t_31)] : List (Nat × Value)).foldl (fun xs p => xs.set p.1 p.2) (Go.Proofs.Ytlljmgphgmklcaa.PCover.flat l29_29) = (Go.Proofs.Ytlljmgphgmklcaa.PCover.flat l38_38) := (by rw [← hl38_38]; show _ = List.flatMap Go.Proofs.Ytlljmgphgmklcaa.PCover.Cover.cells _; first | (rw [← e0_]; first | done | rfl)); rw [← hwl38_38, ← e_]; exact Sl38_38.out.1)
      have Gl38_38 : Hid (wl29_29.grownBy wl38_38 (Value.slice (some ⟨qt_9, 0, none⟩) a.length c0).ownBlock) := Lib.hid (by rw [← hwl38_38]; exact Sl38_38.out.2)
      have HBwl38_38 := Lib.hid (Aid.grown_tr HBwl29_29.out Gl38_38.out)
      have hhl38_38 := Lib.hid hl38_38
      clear hl38_38 Sl38_38
      clear Pl29_29 Gl38_38
      replace H := let_hid H
      obtain ⟨t_40, ht_40, H⟩ := H
      replace H := idx_hid H
      obtain ⟨nt_45, yt_45, et_45, lt_45, gt_45, H⟩ := H
      obtain rfl : k0 = nt_45 := by omega
      clear et_45
      obtain ⟨t_45_id, t_45_day, t_45_zone, t_45_grams, t_45_paid, t_45_from_, t_45_to_, t_45_leave, t_45_arrive⟩ := yt_45
      replace H := unCover_hid H
      have hqt_45 := nl38_38.out
      obtain ⟨ab_t_45, ao_t_45, zt_45, At_45, z_t_45, ct_45_0, ct_45_1, ct_45_2, ct_45_3, ct_45_4, ct_45_5, ct_45_6, ct_45_7, ct_45_8⟩ := Go.Proofs.Ytlljmgphgmklcaa.OCover.at_ (own_cells Pl38_38.out) (k := k0) (by omega)
      obtain rfl := Option.some.inj (gt_45.out.symm.trans z_t_45)
      simp only [Option.some.injEq, Addr.mk.injEq] at At_45
      obtain ⟨rfl, rfl, _⟩ := At_45
      clear z_t_45
      simp only [Nat.zero_add] at ct_45_0 ct_45_1 ct_45_2 ct_45_3 ct_45_4 ct_45_5 ct_45_6 ct_45_7 ct_45_8
      have b0t_45 : (0 : Int) ≤ (k0 : Int) := by omega
      have b1t_45 : (k0 : Int) < ((a.length : Nat) : Int) := by omega
      have b2t_45 : ((k0 : Int)).toNat = k0 := by omega
      clear hqt_45
      replace H := let_hid H
      obtain ⟨l47_47, hl47_47, H⟩ := H
      try simp only [Int.toNat_natCast] at hl47_47
      obtain ⟨wl47_47, hwl47_47⟩ : ∃ x, (wl38_38).setCell ⟨qt_9, k0 * 9 + 4, none⟩ (.int .i64 t_40) = x := ⟨_, rfl⟩
      have z0l47_47 := Pl38_38.out.frozenAt (k0 * 9 + 4)
      have Sl47_47 := Lib.hid (own_stores [(k0 * 9 + 4, .int .i64 t_40)] Pl38_38.out)
      have nl47_47 : Hid (l47_47.length = a.length) := Lib.hid (by rw [← hl47_47, List.length_set]; exact nl38_38.out)
      have Pl47_47 : Hid (wl47_47.ownsRow b0 25 9 (.slice (some ⟨qt_9, 0, none⟩) a.length c0) a.length (Go.Proofs.Ytlljmgphgmklcaa.PCover.flat l47_47)) := Lib.hid (by have es_ := set_self gt_45.out; have e0_ := flat_set Go.Proofs.Ytlljmgphgmklcaa.PCover.Cover.cells 9 (fun _ => rfl) l38_38 (k0) 4 (Go.Proofs.Ytlljmgphgmklcaa.PCover.Cover.mk t_45_id t_45_day t_45_zone t_45_grams t_45_paid t_45_from_ t_45_to_ t_45_leave t_45_arrive) (Go.Proofs.Ytlljmgphgmklcaa.PCover.Cover.mk t_45_id t_45_day t_45_zone t_45_grams t_40 t_45_from_ t_45_to_ t_45_leave t_45_arrive) (.int .i64 t_40) lt_45 (by decide) rfl; rw [es_] at e0_; have e_ : ([(k0 * 9 + 4, .int .i64 t_40)] : List (Nat × Value)).foldl (fun xs p => xs.set p.1 p.2) (Go.Proofs.Ytlljmgphgmklcaa.PCover.flat l38_38) = (Go.Proofs.Ytlljmgphgmklcaa.PCover.flat l47_47) := (by rw [← hl47_47]; show _ = List.flatMap Go.Proofs.Ytlljmgphgmklcaa.PCover.Cover.cells _; first | (rw [← e0_]; first | done | rfl)); rw [← hwl47_47, ← e_]; exact Sl47_47.out.1)
      have Gl47_47 : Hid (wl38_38.grownBy wl47_47 (Value.slice (some ⟨qt_9, 0, none⟩) a.length c0).ownBlock) := Lib.hid (by rw [← hwl47_47]; exact Sl47_47.out.2)
      have HBwl47_47 := Lib.hid (Aid.grown_tr HBwl38_38.out Gl47_47.out)
      have hhl47_47 := Lib.hid hl47_47
      clear hl47_47 Sl47_47
      clear Pl38_38 Gl47_47
      replace H := let_hid H
      obtain ⟨t_49, ht_49, H⟩ := H
      replace H := idx_hid H
      obtain ⟨nt_54, yt_54, et_54, lt_54, gt_54, H⟩ := H
      obtain rfl : k0 = nt_54 := by omega
      clear et_54
      obtain ⟨t_54_id, t_54_day, t_54_zone, t_54_grams, t_54_paid, t_54_from_, t_54_to_, t_54_leave, t_54_arrive⟩ := yt_54
      replace H := unCover_hid H
      have hqt_54 := nl47_47.out
      obtain ⟨ab_t_54, ao_t_54, zt_54, At_54, z_t_54, ct_54_0, ct_54_1, ct_54_2, ct_54_3, ct_54_4, ct_54_5, ct_54_6, ct_54_7, ct_54_8⟩ := Go.Proofs.Ytlljmgphgmklcaa.OCover.at_ (own_cells Pl47_47.out) (k := k0) (by omega)
      obtain rfl := Option.some.inj (gt_54.out.symm.trans z_t_54)
      simp only [Option.some.injEq, Addr.mk.injEq] at At_54
      obtain ⟨rfl, rfl, _⟩ := At_54
      clear z_t_54
      simp only [Nat.zero_add] at ct_54_0 ct_54_1 ct_54_2 ct_54_3 ct_54_4 ct_54_5 ct_54_6 ct_54_7 ct_54_8
      have b0t_54 : (0 : Int) ≤ (k0 : Int) := by omega
      have b1t_54 : (k0 : Int) < ((a.length : Nat) : Int) := by omega
      have b2t_54 : ((k0 : Int)).toNat = k0 := by omega
      clear hqt_54
      replace H := let_hid H
      obtain ⟨l56_56, hl56_56, H⟩ := H
      try simp only [Int.toNat_natCast] at hl56_56
      obtain ⟨wl56_56, hwl56_56⟩ : ∃ x, (wl47_47).setCell ⟨qt_9, k0 * 9 + 5, none⟩ (.int .i64 t_49) = x := ⟨_, rfl⟩
      have z0l56_56 := Pl47_47.out.frozenAt (k0 * 9 + 5)
      have Sl56_56 := Lib.hid (own_stores [(k0 * 9 + 5, .int .i64 t_49)] Pl47_47.out)
      have nl56_56 : Hid (l56_56.length = a.length) := Lib.hid (by rw [← hl56_56, List.length_set]; exact nl47_47.out)
      have Pl56_56 : Hid (wl56_56.ownsRow b0 25 9 (.slice (some ⟨qt_9, 0, none⟩) a.length c0) a.length (Go.Proofs.Ytlljmgphgmklcaa.PCover.flat l56_56)) := Lib.hid (by have es_ := set_self gt_54.out; have e0_ := flat_set Go.Proofs.Ytlljmgphgmklcaa.PCover.Cover.cells 9 (fun _ => rfl) l47_47 (k0) 5 (Go.Proofs.Ytlljmgphgmklcaa.PCover.Cover.mk t_54_id t_54_day t_54_zone t_54_grams t_54_paid t_54_from_ t_54_to_ t_54_leave t_54_arrive) (Go.Proofs.Ytlljmgphgmklcaa.PCover.Cover.mk t_54_id t_54_day t_54_zone t_54_grams t_54_paid t_49 t_54_to_ t_54_leave t_54_arrive) (.int .i64 t_49) lt_54 (by decide) rfl; rw [es_] at e0_; have e_ : ([(k0 * 9 + 5, .int .i64 t_49)] : List (Nat × Value)).foldl (fun xs p => xs.set p.1 p.2) (Go.Proofs.Ytlljmgphgmklcaa.PCover.flat l47_47) = (Go.Proofs.Ytlljmgphgmklcaa.PCover.flat l56_56) := (by rw [← hl56_56]; show _ = List.flatMap Go.Proofs.Ytlljmgphgmklcaa.PCover.Cover.cells _; first | (rw [← e0_]; first | done | rfl)); rw [← hwl56_56, ← e_]; exact Sl56_56.out.1)
      have Gl56_56 : Hid (wl47_47.grownBy wl56_56 (Value.slice (some ⟨qt_9, 0, none⟩) a.length c0).ownBlock) := Lib.hid (by rw [← hwl56_56]; exact Sl56_56.out.2)
      have HBwl56_56 := Lib.hid (Aid.grown_tr HBwl47_47.out Gl56_56.out)
      have hhl56_56 := Lib.hid hl56_56
      clear hl56_56 Sl56_56
      clear Pl47_47 Gl56_56
      replace H := let_hid H
      obtain ⟨t_58, ht_58, H⟩ := H
      replace H := idx_hid H
      obtain ⟨nt_63, yt_63, et_63, lt_63, gt_63, H⟩ := H
      obtain rfl : k0 = nt_63 := by omega
      clear et_63
      obtain ⟨t_63_id, t_63_day, t_63_zone, t_63_grams, t_63_paid, t_63_from_, t_63_to_, t_63_leave, t_63_arrive⟩ := yt_63
      replace H := unCover_hid H
      have hqt_63 := nl56_56.out
      obtain ⟨ab_t_63, ao_t_63, zt_63, At_63, z_t_63, ct_63_0, ct_63_1, ct_63_2, ct_63_3, ct_63_4, ct_63_5, ct_63_6, ct_63_7, ct_63_8⟩ := Go.Proofs.Ytlljmgphgmklcaa.OCover.at_ (own_cells Pl56_56.out) (k := k0) (by omega)
      obtain rfl := Option.some.inj (gt_63.out.symm.trans z_t_63)
      simp only [Option.some.injEq, Addr.mk.injEq] at At_63
      obtain ⟨rfl, rfl, _⟩ := At_63
      clear z_t_63
      simp only [Nat.zero_add] at ct_63_0 ct_63_1 ct_63_2 ct_63_3 ct_63_4 ct_63_5 ct_63_6 ct_63_7 ct_63_8
      have b0t_63 : (0 : Int) ≤ (k0 : Int) := by omega
      have b1t_63 : (k0 : Int) < ((a.length : Nat) : Int) := by omega
      have b2t_63 : ((k0 : Int)).toNat = k0 := by omega
      clear hqt_63
      replace H := let_hid H
      obtain ⟨l65_65, hl65_65, H⟩ := H
      try simp only [Int.toNat_natCast] at hl65_65
      obtain ⟨wl65_65, hwl65_65⟩ : ∃ x, (wl56_56).setCell ⟨qt_9, k0 * 9 + 6, none⟩ (.int .i64 t_58) = x := ⟨_, rfl⟩
      have z0l65_65 := Pl56_56.out.frozenAt (k0 * 9 + 6)
      have Sl65_65 := Lib.hid (own_stores [(k0 * 9 + 6, .int .i64 t_58)] Pl56_56.out)
      have nl65_65 : Hid (l65_65.length = a.length) := Lib.hid (by rw [← hl65_65, List.length_set]; exact nl56_56.out)
      have Pl65_65 : Hid (wl65_65.ownsRow b0 25 9 (.slice (some ⟨qt_9, 0, none⟩) a.length c0) a.length (Go.Proofs.Ytlljmgphgmklcaa.PCover.flat l65_65)) := Lib.hid (by have es_ := set_self gt_63.out; have e0_ := flat_set Go.Proofs.Ytlljmgphgmklcaa.PCover.Cover.cells 9 (fun _ => rfl) l56_56 (k0) 6 (Go.Proofs.Ytlljmgphgmklcaa.PCover.Cover.mk t_63_id t_63_day t_63_zone t_63_grams t_63_paid t_63_from_ t_63_to_ t_63_leave t_63_arrive) (Go.Proofs.Ytlljmgphgmklcaa.PCover.Cover.mk t_63_id t_63_day t_63_zone t_63_grams t_63_paid t_63_from_ t_58 t_63_leave t_63_arrive) (.int .i64 t_58) lt_63 (by decide) rfl; rw [es_] at e0_; have e_ : ([(k0 * 9 + 6, .int .i64 t_58)] : List (Nat × Value)).foldl (fun xs p => xs.set p.1 p.2) (Go.Proofs.Ytlljmgphgmklcaa.PCover.flat l56_56) = (Go.Proofs.Ytlljmgphgmklcaa.PCover.flat l65_65) := (by rw [← hl65_65]; show _ = List.flatMap Go.Proofs.Ytlljmgphgmklcaa.PCover.Cover.cells _; first | (rw [← e0_]; first | done | rfl)); rw [← hwl65_65, ← e_]; exact Sl65_65.out.1)
      have Gl65_65 : Hid (wl56_56.grownBy wl65_65 (Value.slice (some ⟨qt_9, 0, none⟩) a.length c0).ownBlock) := Lib.hid (by rw [← hwl65_65]; exact Sl65_65.out.2)
      have HBwl65_65 := Lib.hid (Aid.grown_tr HBwl56_56.out Gl65_65.out)
      have hhl65_65 := Lib.hid hl65_65
      clear hl65_65 Sl65_65
      clear Pl56_56 Gl65_65
      replace H := let_hid H
      obtain ⟨t_67, ht_67, H⟩ := H
      replace H := idx_hid H
      obtain ⟨nt_72, yt_72, et_72, lt_72, gt_72, H⟩ := H
      obtain rfl : k0 = nt_72 := by omega
      clear et_72
      obtain ⟨t_72_id, t_72_day, t_72_zone, t_72_grams, t_72_paid, t_72_from_, t_72_to_, t_72_leave, t_72_arrive⟩ := yt_72
      replace H := unCover_hid H
      have hqt_72 := nl65_65.out
      obtain ⟨ab_t_72, ao_t_72, zt_72, At_72, z_t_72, ct_72_0, ct_72_1, ct_72_2, ct_72_3, ct_72_4, ct_72_5, ct_72_6, ct_72_7, ct_72_8⟩ := Go.Proofs.Ytlljmgphgmklcaa.OCover.at_ (own_cells Pl65_65.out) (k := k0) (by omega)
      obtain rfl := Option.some.inj (gt_72.out.symm.trans z_t_72)
      simp only [Option.some.injEq, Addr.mk.injEq] at At_72
      obtain ⟨rfl, rfl, _⟩ := At_72
      clear z_t_72
      simp only [Nat.zero_add] at ct_72_0 ct_72_1 ct_72_2 ct_72_3 ct_72_4 ct_72_5 ct_72_6 ct_72_7 ct_72_8
      have b0t_72 : (0 : Int) ≤ (k0 : Int) := by omega
      have b1t_72 : (k0 : Int) < ((a.length : Nat) : Int) := by omega
      have b2t_72 : ((k0 : Int)).toNat = k0 := by omega
      clear hqt_72
      replace H := let_hid H
      obtain ⟨l74_74, hl74_74, H⟩ := H
      try simp only [Int.toNat_natCast] at hl74_74
      obtain ⟨wl74_74, hwl74_74⟩ : ∃ x, (wl65_65).setCell ⟨qt_9, k0 * 9 + 7, none⟩ (.int .i64 t_67) = x := ⟨_, rfl⟩
      have z0l74_74 := Pl65_65.out.frozenAt (k0 * 9 + 7)
      have Sl74_74 := Lib.hid (own_stores [(k0 * 9 + 7, .int .i64 t_67)] Pl65_65.out)
      have nl74_74 : Hid (l74_74.length = a.length) := Lib.hid (by rw [← hl74_74, List.length_set]; exact nl65_65.out)
      have Pl74_74 : Hid (wl74_74.ownsRow b0 25 9 (.slice (some ⟨qt_9, 0, none⟩) a.length c0) a.length (Go.Proofs.Ytlljmgphgmklcaa.PCover.flat l74_74)) := Lib.hid (by have es_ := set_self gt_72.out; have e0_ := flat_set Go.Proofs.Ytlljmgphgmklcaa.PCover.Cover.cells 9 (fun _ => rfl) l65_65 (k0) 7 (Go.Proofs.Ytlljmgphgmklcaa.PCover.Cover.mk t_72_id t_72_day t_72_zone t_72_grams t_72_paid t_72_from_ t_72_to_ t_72_leave t_72_arrive) (Go.Proofs.Ytlljmgphgmklcaa.PCover.Cover.mk t_72_id t_72_day t_72_zone t_72_grams t_72_paid t_72_from_ t_72_to_ t_67 t_72_arrive) (.int .i64 t_67) lt_72 (by decide) rfl; rw [es_] at e0_; have e_ : ([(k0 * 9 + 7, .int .i64 t_67)] : List (Nat × Value)).foldl (fun xs p => xs.set p.1 p.2) (Go.Proofs.Ytlljmgphgmklcaa.PCover.flat l65_65) = (Go.Proofs.Ytlljmgphgmklcaa.PCover.flat l74_74) := (by rw [← hl74_74]; show _ = List.flatMap Go.Proofs.Ytlljmgphgmklcaa.PCover.Cover.cells _; first | (rw [← e0_]; first | done | rfl)); rw [← hwl74_74, ← e_]; exact Sl74_74.out.1)
      have Gl74_74 : Hid (wl65_65.grownBy wl74_74 (Value.slice (some ⟨qt_9, 0, none⟩) a.length c0).ownBlock) := Lib.hid (by rw [← hwl74_74]; exact Sl74_74.out.2)
      have HBwl74_74 := Lib.hid (Aid.grown_tr HBwl65_65.out Gl74_74.out)
      have hhl74_74 := Lib.hid hl74_74
      clear hl74_74 Sl74_74
      clear Pl65_65 Gl74_74
      replace H := let_hid H
      obtain ⟨t_76, ht_76, H⟩ := H
      replace H := idx_hid H
      obtain ⟨nt_81, yt_81, et_81, lt_81, gt_81, H⟩ := H
      obtain rfl : k0 = nt_81 := by omega
      clear et_81
      obtain ⟨t_81_id, t_81_day, t_81_zone, t_81_grams, t_81_paid, t_81_from_, t_81_to_, t_81_leave, t_81_arrive⟩ := yt_81
      replace H := unCover_hid H
      have hqt_81 := nl74_74.out
      obtain ⟨ab_t_81, ao_t_81, zt_81, At_81, z_t_81, ct_81_0, ct_81_1, ct_81_2, ct_81_3, ct_81_4, ct_81_5, ct_81_6, ct_81_7, ct_81_8⟩ := Go.Proofs.Ytlljmgphgmklcaa.OCover.at_ (own_cells Pl74_74.out) (k := k0) (by omega)
      obtain rfl := Option.some.inj (gt_81.out.symm.trans z_t_81)
      simp only [Option.some.injEq, Addr.mk.injEq] at At_81
      obtain ⟨rfl, rfl, _⟩ := At_81
      clear z_t_81
      simp only [Nat.zero_add] at ct_81_0 ct_81_1 ct_81_2 ct_81_3 ct_81_4 ct_81_5 ct_81_6 ct_81_7 ct_81_8
      have b0t_81 : (0 : Int) ≤ (k0 : Int) := by omega
      have b1t_81 : (k0 : Int) < ((a.length : Nat) : Int) := by omega
      have b2t_81 : ((k0 : Int)).toNat = k0 := by omega
      clear hqt_81
      replace H := let_hid H
      obtain ⟨l83_83, hl83_83, H⟩ := H
      try simp only [Int.toNat_natCast] at hl83_83
      obtain ⟨wl83_83, hwl83_83⟩ : ∃ x, (wl74_74).setCell ⟨qt_9, k0 * 9 + 8, none⟩ (.int .i64 t_76) = x := ⟨_, rfl⟩
      have z0l83_83 := Pl74_74.out.frozenAt (k0 * 9 + 8)
      have Sl83_83 := Lib.hid (own_stores [(k0 * 9 + 8, .int .i64 t_76)] Pl74_74.out)
      have nl83_83 : Hid (l83_83.length = a.length) := Lib.hid (by rw [← hl83_83, List.length_set]; exact nl74_74.out)
      have Pl83_83 : Hid (wl83_83.ownsRow b0 25 9 (.slice (some ⟨qt_9, 0, none⟩) a.length c0) a.length (Go.Proofs.Ytlljmgphgmklcaa.PCover.flat l83_83)) := Lib.hid (by have es_ := set_self gt_81.out; have e0_ := flat_set Go.Proofs.Ytlljmgphgmklcaa.PCover.Cover.cells 9 (fun _ => rfl) l74_74 (k0) 8 (Go.Proofs.Ytlljmgphgmklcaa.PCover.Cover.mk t_81_id t_81_day t_81_zone t_81_grams t_81_paid t_81_from_ t_81_to_ t_81_leave t_81_arrive) (Go.Proofs.Ytlljmgphgmklcaa.PCover.Cover.mk t_81_id t_81_day t_81_zone t_81_grams t_81_paid t_81_from_ t_81_to_ t_81_leave t_76) (.int .i64 t_76) lt_81 (by decide) rfl; rw [es_] at e0_; have e_ : ([(k0 * 9 + 8, .int .i64 t_76)] : List (Nat × Value)).foldl (fun xs p => xs.set p.1 p.2) (Go.Proofs.Ytlljmgphgmklcaa.PCover.flat l74_74) = (Go.Proofs.Ytlljmgphgmklcaa.PCover.flat l83_83) := (by rw [← hl83_83]; show _ = List.flatMap Go.Proofs.Ytlljmgphgmklcaa.PCover.Cover.cells _; first | (rw [← e0_]; first | done | rfl)); rw [← hwl83_83, ← e_]; exact Sl83_83.out.1)
      have Gl83_83 : Hid (wl74_74.grownBy wl83_83 (Value.slice (some ⟨qt_9, 0, none⟩) a.length c0).ownBlock) := Lib.hid (by rw [← hwl83_83]; exact Sl83_83.out.2)
      have HBwl83_83 := Lib.hid (Aid.grown_tr HBwl74_74.out Gl83_83.out)
      have hhl83_83 := Lib.hid hl83_83
      clear hl83_83 Sl83_83
      clear Pl74_74 Gl83_83
      replace H := let_hid H
      obtain ⟨t_85, ht_85, H⟩ := H
      replace H := app_hid H
      go_wp2_with fail
      clear z0l11_11 ct_9_0 ct_9_1 ct_9_2 ct_9_3 ct_9_4 ct_9_5 ct_9_6 ct_9_7 ct_9_8 z0l20_20 ct_18_0 ct_18_1 ct_18_2 ct_18_3 ct_18_4 ct_18_5 ct_18_6 ct_18_7 ct_18_8 z0l29_29 ct_27_0 ct_27_1 ct_27_2 ct_27_3 ct_27_4 ct_27_5 ct_27_6 ct_27_7 ct_27_8 z0l38_38 ct_36_0 ct_36_1 ct_36_2 ct_36_3 ct_36_4 ct_36_5 ct_36_6 ct_36_7 ct_36_8 z0l47_47 ct_45_0 ct_45_1 ct_45_2 ct_45_3 ct_45_4 ct_45_5 ct_45_6 ct_45_7 ct_45_8 z0l56_56 ct_54_0 ct_54_1 ct_54_2 ct_54_3 ct_54_4 ct_54_5 ct_54_6 ct_54_7 ct_54_8 z0l65_65 ct_63_0 ct_63_1 ct_63_2 ct_63_3 ct_63_4 ct_63_5 ct_63_6 ct_63_7 ct_63_8 z0l74_74 ct_72_0 ct_72_1 ct_72_2 ct_72_3 ct_72_4 ct_72_5 ct_72_6 ct_72_7 ct_72_8 z0l83_83 ct_81_0 ct_81_1 ct_81_2 ct_81_3 ct_81_4 ct_81_5 ct_81_6 ct_81_7 ct_81_8
      go_roundg m0
      case measure => omega
      case rel => exact ⟨k0 + 1, _, _, by omega, by go_num, rfl, H, HBwl83_83, Pl83_83, Lib.hid (nl83_83.out)⟩
end Go.Proofs.Ytlljmgphgmklcaa.GlMarkCoverS

/- loop.example/g01062/laws.markIntS as a plain function, and the contract of the program's: where the plain one has an answer, the program has it. Conditions: slices read as lists. -/
namespace Go.Proofs.Ytlljmgphgmklcaa.GlMarkIntS
set_option linter.unusedVariables false
set_option linter.unusedSimpArgs false
open Go.RowKit
open Go.Proofs.Ytlljmgphgmklcaa.Rowed Go.Proofs.Ytlljmgphgmklcaa.Turn Go.Proofs.Ytlljmgphgmklcaa.Aid Go.Proofs.Ytlljmgphgmklcaa.GoP Go.Proofs.Ytlljmgphgmklcaa.GoM

def l0  (k0 : Nat) (s : (List Int) × Int) (nx0 bk0 : (List Int) × Int → Option (Int × (List Int))) : Option (Int × (List Int)) :=
  unp2 s fun a_0l0 k_1l0 =>
  Option.bind (idx a_0l0 (k0 : Int)) fun (yt_9 : Int) =>
  letK (a_0l0.set k0 k_1l0) fun (l10_10 : (List Int)) =>
  letK (IntKind.i64.wrap (k_1l0 + 1)) fun (t_12 : Int) =>
  appK nx0 (l10_10, t_12)

def e0  (s : (List Int) × Int) : Option (Int × (List Int)) :=
  unp2 s fun a_0l0 k_1l0 =>
  some (k_1l0, a_0l0)

def P (a : (List Int)) (k_1 : Int) : Option (Int × (List Int)) :=
  cntK (l0 ) (a.length) 0 (a, k_1) (e0 )

set_option maxRecDepth 100000 in
set_option maxHeartbeats 2000000 in
theorem C (a : (List Int)) (k_1 : Int) (A0 : Option Addr) (c0 : Nat)  (b0 : Nat) (w : World) (M0 : Hid (w.ownsRow b0 3 1 (.slice A0 a.length c0) a.length (Go.Proofs.Ytlljmgphgmklcaa.HelpInt.iv a))) (N0 : Hid (a.length ≤ 9223372036854775807))  {r : Int} {l_ : (List Int)} (H : Hid (P a k_1 = some (r, l_))) :
    Calls Try.prog 38 #[.slice A0 a.length c0, .int .i64 k_1] w (fun e w' => e = .returned (.int .i64 r) ∧ w'.ownsRow b0 3 1 (.slice A0 a.length c0) a.length (Go.Proofs.Ytlljmgphgmklcaa.HelpInt.iv l_) ∧ l_.length = a.length ∧ w.grownBy w' (Value.slice A0 a.length c0).ownBlock) := by
  have HB := Lib.hid (Aid.grown_refl w (Value.slice A0 a.length c0).ownBlock)
  unfold P at H
  have N0o := N0.out
  go_enter Try.func38, Try.ntmps38
  go_wp2_with fail
  have hb_0 : a.length ≤ 9223372036854775807 := own_max M0.out
  go_wp2_with fail
  go_loopg [5, 1] (a.length) (fun m_ v5_ v1_ wr => ∃ (k0 : Nat) (a_0l0 : (List Int)) (k_1l0 : Int), k0 + m_ = a.length ∧ v5_ = .int .i64 (k0 : Int) ∧ v1_ = .int .i64 k_1l0 ∧ Hid (cntK (l0 ) m_ k0 (a_0l0, k_1l0) (e0 ) = some (r, l_)) ∧ Hid (w.grownBy wr (Value.slice A0 a.length c0).ownBlock) ∧ Hid (wr.ownsRow b0 3 1 (.slice A0 a.length c0) a.length (Go.Proofs.Ytlljmgphgmklcaa.HelpInt.iv a_0l0)) ∧ Hid (a_0l0.length = a.length))
  case atStart => exact ⟨0, _, _, by omega, rfl, rfl, H, HB, M0, Lib.hid (rfl)⟩
  case round =>
    obtain ⟨k0, a_0l0, k_1l0, hkm0, rfl, rfl, H, HBwr0, Oa_0l0, hna_0l0⟩ := hrel
    rename World => wr0
    cases gk with
    | zero =>
      obtain rfl : k0 = a.length := by omega
      have hc0 : decide (((a.length : Nat) : Int) < ((a.length : Nat) : Int)) = false := by simp
      replace H := cnt_zero H
      unfold e0 at H
      replace H := unp2_hid H
      cases ret_hid H
      go_wp2_with fail
      go_ret
      exact ⟨rfl, Oa_0l0.out, hna_0l0.out, HBwr0.out⟩
    | succ m0 =>
      have hlt0 : k0 < a.length := by omega
      have hc0 : decide ((k0 : Int) < ((a.length : Nat) : Int)) = true := by simp; omega
      replace H := cnt_succ H
      unfold l0 at H
      replace H := unp2_hid H
      replace H := idx_hid H
      obtain ⟨nt_9, yt_9, et_9, lt_9, gt_9, H⟩ := H
      obtain rfl : k0 = nt_9 := by omega
      clear et_9
      have hqt_9 := hna_0l0.out
      obtain ⟨qt_9, Qt_9⟩ := own_some Oa_0l0.out (by omega)
      subst Qt_9
      obtain ⟨ab_t_9, ao_t_9, zt_9, At_9, z_t_9, ct_9_0⟩ := Go.Proofs.Ytlljmgphgmklcaa.HelpInt.Ints.at_ (own_cells Oa_0l0.out) (k := k0) (by omega)
      obtain rfl := Option.some.inj (gt_9.out.symm.trans z_t_9)
      simp only [Option.some.injEq, Addr.mk.injEq] at At_9
      obtain ⟨rfl, rfl, _⟩ := At_9
      clear z_t_9
      simp only [Nat.zero_add] at ct_9_0
      have b0t_9 : (0 : Int) ≤ (k0 : Int) := by omega
      have b1t_9 : (k0 : Int) < ((a.length : Nat) : Int) := by omega
      have b2t_9 : ((k0 : Int)).toNat = k0 := by omega
      clear hqt_9
      replace H := let_hid H
      obtain ⟨l10_10, hl10_10, H⟩ := H
      try simp only [Int.toNat_natCast] at hl10_10
      obtain ⟨wl10_10, hwl10_10⟩ : ∃ x, (wr0).setCell ⟨qt_9, k0, none⟩ (.int .i64 k_1l0) = x := ⟨_, rfl⟩
      have z0l10_10 := Oa_0l0.out.frozenAt (k0)
      have Sl10_10 := Lib.hid (own_stores [(k0, .int .i64 k_1l0)] Oa_0l0.out)
      have nl10_10 : Hid (l10_10.length = a.length) := Lib.hid (by rw [← hl10_10, List.length_set]; exact hna_0l0.out)
      have Pl10_10 : Hid (wl10_10.ownsRow b0 3 1 (.slice (some ⟨qt_9, 0, none⟩) a.length c0) a.length (Go.Proofs.Ytlljmgphgmklcaa.HelpInt.iv l10_10)) := Lib.hid (by have e_ : ([(k0, .int .i64 k_1l0)] : List (Nat × Value)).foldl (fun xs p => xs.set p.1 p.2) (Go.Proofs.Ytlljmgphgmklcaa.HelpInt.iv a_0l0) = (Go.Proofs.Ytlljmgphgmklcaa.HelpInt.iv l10_10) := (by rw [← hl10_10]; first | done | simp [Go.Proofs.Ytlljmgphgmklcaa.HelpInt.iv, List.map_set]); rw [← hwl10_10, ← e_]; exact Sl10_10.out.1)
      have Gl10_10 : Hid (wr0.grownBy wl10_10 (Value.slice (some ⟨qt_9, 0, none⟩) a.length c0).ownBlock) := Lib.hid (by rw [← hwl10_10]; exact Sl10_10.out.2)
      have HBwl10_10 := Lib.hid (Aid.grown_tr HBwr0.out Gl10_10.out)
      have hhl10_10 := Lib.hid hl10_10
      clear hl10_10 Sl10_10
      clear Oa_0l0 Gl10_10
      replace H := let_hid H
      obtain ⟨t_12, ht_12, H⟩ := H
      replace H := app_hid H
      go_wp2_with fail
      clear z0l10_10 ct_9_0
      go_roundg m0
      case measure => omega
      case rel => exact ⟨k0 + 1, _, _, by omega, by go_num, rfl, H, HBwl10_10, Pl10_10, Lib.hid (nl10_10.out)⟩
end Go.Proofs.Ytlljmgphgmklcaa.GlMarkIntS

