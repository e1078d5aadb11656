/- The texts on which the proof of FnExactCountCompatible stands, one behind the other (3 of 3). No condition of their own. -/
import Derived.Test.YtekacbjnpeglhaaChecked
import Derived.Test.YtekacbjnpeglhaaFnExactCountCompatibleP1
import Derived.Test.YtekacbjnpeglhaaFnExactCountCompatibleP2
import Derived.WalkKit
import Derived.WalkSpells
import Derived.WalkLawsBesides
import Derived.BigQuiet
import Derived.OwnWalk
import Derived.Deep.LoopGhost
import Derived.Deep.QuietTactic
import Derived.IntWalk
import Derived.Lib.QuietBelow
import Derived.SliceStrings
import Derived.ChangeSlices
/- loop.example/g01062/impl.isKind as a plain function, and the contract of the program's: where the plain one has an answer, the program has it. Conditions: slices read as lists. -/
namespace Go.Proofs.Ytekacbjnpeglhaa.GiIsKind
set_option linter.unusedVariables false
set_option linter.unusedSimpArgs false
open Go.RowKit
open Go.Proofs.Ytekacbjnpeglhaa.Rowed Go.Proofs.Ytekacbjnpeglhaa.Turn Go.Proofs.Ytekacbjnpeglhaa.Aid Go.Proofs.Ytekacbjnpeglhaa.GoP Go.Proofs.Ytekacbjnpeglhaa.GoM

def l0 (t_sizes : (List Int)) (kind : (List Int)) (k0 : Nat) (s : Unit) (nx0 bk0 : Unit → Option (Bool)) : Option (Bool) :=
  
  Option.bind (idx kind (k0 : Int)) fun (yt_19 : Int) =>
  Option.bind (Go.Proofs.Ytekacbjnpeglhaa.GiHasValue.P t_sizes (k0 : Int) yt_19) fun (t_27 : Bool) =>
  letK (!t_27) fun (t_28 : Bool) =>
  iteK t_28
  (some false)
  (appK nx0 ())

def e0  (s : Unit) : Option (Bool) :=
  
  some true

def P (t_sizes : (List Int)) (t_bans : (List Go.Proofs.Ytekacbjnpeglhaa.PBan.Ban)) (kind : (List Int)) : Option (Bool) :=
  Option.bind (Go.Proofs.Ytekacbjnpeglhaa.GiIsKindTable.P t_sizes t_bans) fun (t_3 : Bool) =>
  letK (!t_3) fun (t_4 : Bool) =>
  joinK (fun (t_12 : Bool) =>
  iteK t_12
  (some false)
  (cntK (l0 t_sizes kind) (kind.length) 0 () (e0 ))) fun jt_12 => iteK t_4 (appK jt_12 true) (letK ((kind.length : Int) != (t_sizes.length : Int)) fun (t_11 : Bool) =>
  appK jt_12 t_11)

set_option maxRecDepth 100000 in
set_option maxHeartbeats 2000000 in
theorem C (t_sizes : (List Int)) (t_bans : (List Go.Proofs.Ytekacbjnpeglhaa.PBan.Ban)) (kind : (List Int)) (A0_0 : Option Addr) (c0_0 : Nat) (A0_1 : Option Addr) (c0_1 : Nat) (A1 : Option Addr) (c1 : Nat)  (w : World) (M0_0 : Hid (Cells w 1 A0_0 t_sizes.length (Go.Proofs.Ytekacbjnpeglhaa.HelpInt.iv t_sizes))) (N0_0 : Hid (t_sizes.length ≤ 9223372036854775807)) (M0_1 : Hid (Cells w 4 A0_1 t_bans.length (Go.Proofs.Ytekacbjnpeglhaa.PBan.flat t_bans))) (N0_1 : Hid (t_bans.length ≤ 9223372036854775807)) (M1 : Hid (Cells w 1 A1 kind.length (Go.Proofs.Ytekacbjnpeglhaa.HelpInt.iv kind))) (N1 : Hid (kind.length ≤ 9223372036854775807))  {r : Bool} (H : Hid (P t_sizes t_bans kind = some r)) :
    Calls Try.prog 61 #[.agg #[.slice A0_0 t_sizes.length c0_0, .slice A0_1 t_bans.length c0_1], .slice A1 kind.length c1] w (Gives (.bool r) w) := by
  have HB := Lib.hid (Below.refl w.heap.size w)
  unfold P at H
  have N0_0o := N0_0.out
  have N0_1o := N0_1.out
  have N1o := N1.out
  go_enter Try.func61, Try.ntmps61
  obtain ⟨w_t_0, hw_t_0⟩ : ∃ x, w.alloc (.cells #[.slice A0_0 t_sizes.length c0_0, .slice A0_1 t_bans.length c0_1] 30) = x := ⟨_, rfl⟩
  have bw_t_0 : Below w.heap.size w w_t_0 := by rw [← hw_t_0]; exact (Below.refl _ _).alloc (Nat.le_refl _) _
  have HBw_t_0 := Lib.hid (Below.step HB.out bw_t_0)
  clear bw_t_0
  have kt_0_0 : w_t_0.cell? ⟨w.heap.size, 0, none⟩ = some (.slice A0_0 t_sizes.length c0_0) := by rw [← hw_t_0]; exact box_new _ _ _ 0 _ rfl
  have kt_0_1 : w_t_0.cell? ⟨w.heap.size, 1, none⟩ = some (.slice A0_1 t_bans.length c0_1) := by rw [← hw_t_0]; exact box_new _ _ _ 1 _ rfl
  replace H := bind_hid H
  obtain ⟨t_3, qt_3, H⟩ := H
  go_wp2_with fail
  go_at_call 16
  refine (Go.Proofs.Ytekacbjnpeglhaa.GiIsKindTable.C (t_sizes) (t_bans) A0_0 c0_0 A0_1 c0_1 _   (Lib.hid (Cells.below M0_0.out HBw_t_0.out)) N0_0 (Lib.hid (Cells.below M0_1.out HBw_t_0.out)) N0_1 qt_3).mono ?_
  rintro e_t_3 wt_3 ⟨rfl, bt_3⟩
  have HBwt_3 := Lib.hid (Below.step HBw_t_0.out bt_3)
  replace kt_0_0 := cell_below bt_3 kt_0_0
  replace kt_0_1 := cell_below bt_3 kt_0_1
  clear bt_3
  cases t_3 with
  | false =>
    replace H := let_hid H
    obtain ⟨t_4, ht_4, H⟩ := H
    obtain rfl : t_4 = true := ht_4.symm
    replace H := join_hid H
    replace H := ite_t H
    replace H := app_hid H
    replace H := ite_t H
    obtain rfl := ret_hid H
    go_wp2_with fail
    go_ret
    exact ⟨rfl, HBwt_3.out⟩
  | true =>
    replace H := let_hid H
    obtain ⟨t_4, ht_4, H⟩ := H
    obtain rfl : t_4 = false := ht_4.symm
    replace H := join_hid H
    replace H := ite_f H
    replace H := let_hid H
    obtain ⟨t_11, ht_11, H⟩ := H
    replace H := app_hid H
    cases t_11 with
    | false =>
      have Hht_11 : Hid (kind.length = t_sizes.length) := Lib.hid (by have := bne_eq_false_iff_eq.1 ht_11; omega)
      have nht_11 : (kind.length == t_sizes.length) = true := beq_iff_eq.2 Hht_11.out
      replace H := ite_f H
      go_wp2_with fail
      go_loopg [20] (kind.length) (fun m_ v20_ wr => ∃ (k0 : Nat) , k0 + m_ = kind.length ∧ v20_ = .int .i64 (k0 : Int) ∧ Hid (cntK (l0 t_sizes kind) m_ k0 () (e0 ) = some r) ∧ Hid (Below w.heap.size w wr) ∧ wr.cell? ⟨w.heap.size, 0, none⟩ = some (.slice A0_0 t_sizes.length c0_0) ∧ wr.cell? ⟨w.heap.size, 1, none⟩ = some (.slice A0_1 t_bans.length c0_1))
      case atStart => exact ⟨0, by omega, rfl, H, HBwt_3, kt_0_0, kt_0_1⟩
      case round =>
        obtain ⟨k0, hkm0, rfl, H, HBwr0, kt_0_0, kt_0_1⟩ := hrel
        rename World => wr0
        cases gk with
        | zero =>
          obtain rfl : k0 = kind.length := by omega
          have hc0 : decide (((kind.length : Nat) : Int) < ((kind.length : Nat) : Int)) = false := by simp
          replace H := cnt_zero H
          unfold e0 at H
          obtain rfl := ret_hid H
          go_wp2_with fail
          go_ret
          exact ⟨rfl, HBwr0.out⟩
        | succ m0 =>
          have hlt0 : k0 < kind.length := by omega
          have hc0 : decide ((k0 : Int) < ((kind.length : Nat) : Int)) = true := by simp; omega
          replace H := cnt_succ H
          unfold l0 at H
          replace H := idx_hid H
          obtain ⟨nt_19, yt_19, et_19, lt_19, gt_19, H⟩ := H
          obtain rfl : k0 = nt_19 := by omega
          clear et_19
          obtain ⟨ab_t_19, ao_t_19, zt_19, At_19, z_t_19, ct_19_0⟩ := Go.Proofs.Ytekacbjnpeglhaa.HelpInt.Ints.at_ M1.out lt_19
          obtain rfl := Option.some.inj (gt_19.out.symm.trans z_t_19)
          subst At_19
          have ltt_19 := cell_lt ct_19_0
          replace ct_19_0 := cell_below HBwr0.out ct_19_0
          clear z_t_19
          have b0t_19 : (0 : Int) ≤ (k0 : Int) := by omega
          have b1t_19 : (k0 : Int) < ((kind.length : Nat) : Int) := by omega
          have b2t_19 : ((k0 : Int)).toNat = k0 := by omega
          replace H := bind_hid H
          obtain ⟨t_27, qt_27, H⟩ := H
          go_wp2_with fail
          go_at_call 73
          refine (Go.Proofs.Ytekacbjnpeglhaa.GiHasValue.C (t_sizes) ((k0 : Int)) (yt_19) A0_0 c0_0 _   (Lib.hid (Cells.below M0_0.out HBwr0.out)) N0_0 qt_27).mono ?_
          rintro e_t_27 wt_27 ⟨rfl, bt_27⟩
          have HBwt_27 := Lib.hid (Below.step HBwr0.out bt_27)
          replace kt_0_0 := cell_below bt_27 kt_0_0
          replace kt_0_1 := cell_below bt_27 kt_0_1
          replace ct_19_0 := cell_below bt_27 ct_19_0
          clear bt_27
          cases t_27 with
          | false =>
            replace H := let_hid H
            obtain ⟨t_28, ht_28, H⟩ := H
            obtain rfl : t_28 = true := ht_28.symm
            replace H := ite_t H
            obtain rfl := ret_hid H
            go_wp2_with fail
            go_ret
            exact ⟨rfl, HBwt_27.out⟩
          | true =>
            replace H := let_hid H
            obtain ⟨t_28, ht_28, H⟩ := H
            obtain rfl : t_28 = false := ht_28.symm
            replace H := ite_f H
            replace H := app_hid H
            go_wp2_with fail
            go_roundg m0
            case measure => omega
            case rel => exact ⟨k0 + 1, by omega, by go_num, H, HBwt_27, kt_0_0, kt_0_1⟩
    | true =>
      have nht_11 : ¬ (kind.length = t_sizes.length) := by have := bne_iff_ne.1 ht_11; omega
      replace H := ite_t H
      obtain rfl := ret_hid H
      go_wp2_with fail
      go_ret
      exact ⟨rfl, HBwt_3.out⟩
end Go.Proofs.Ytekacbjnpeglhaa.GiIsKind

/- loop.example/g01062/impl.IsCompatible$1 as a plain function, and the contract of the program's: where the plain one has an answer, the program has it. Conditions: slices read as lists. -/
namespace Go.Proofs.Ytekacbjnpeglhaa.GiIsCompatible1
set_option linter.unusedVariables false
set_option linter.unusedSimpArgs false
open Go.RowKit
open Go.Proofs.Ytekacbjnpeglhaa.Rowed Go.Proofs.Ytekacbjnpeglhaa.Turn Go.Proofs.Ytekacbjnpeglhaa.Aid Go.Proofs.Ytekacbjnpeglhaa.GoP Go.Proofs.Ytekacbjnpeglhaa.GoM

def P (b : Go.Proofs.Ytekacbjnpeglhaa.PBan.Ban) (hq0 : (List Int)) : Option (Bool) :=
  unBan b fun (b_a : Int) (b_x : Int) (b_b : Int) (b_y : Int) =>
  Option.bind (Go.Proofs.Ytekacbjnpeglhaa.GiForbids.P (Go.Proofs.Ytekacbjnpeglhaa.PBan.Ban.mk b_a b_x b_b b_y) hq0) fun (t_4 : Bool) =>
  some t_4

set_option maxRecDepth 100000 in
set_option maxHeartbeats 2000000 in
theorem C (b : Go.Proofs.Ytekacbjnpeglhaa.PBan.Ban) (hq0 : (List Int)) (Ahq0 : Option Addr) (chq0 : Nat) (gq0 : Nat) (w : World) (Mhq0 : Hid (Cells w 1 Ahq0 hq0.length (Go.Proofs.Ytekacbjnpeglhaa.HelpInt.iv hq0))) (Nhq0 : Hid (hq0.length ≤ 9223372036854775807)) (Fq0h : Hid (w.cell? ⟨gq0, 0, none⟩ = some (.slice Ahq0 hq0.length chq0))) {r : Bool} (H : Hid (P b hq0 = some r)) :
    Calls Try.prog 63 #[b.val, .pointer (some ⟨gq0, 0, none⟩)] w (Gives (.bool r) w) := by
  have HB := Lib.hid (Below.refl w.heap.size w)
  unfold P at H
  obtain ⟨b_a, b_x, b_b, b_y⟩ := b
  replace H := unBan_hid H
  unfold Go.Proofs.Ytekacbjnpeglhaa.PBan.Ban.val
  have Nhq0o := Nhq0.out
  have Fq0 := Fq0h.out
  go_enter Try.func63, Try.ntmps63
  obtain ⟨w_b_0, hw_b_0⟩ : ∃ x, w.alloc (.cells #[.int .i64 b_a, .int .i64 b_x, .int .i64 b_b, .int .i64 b_y] 57) = x := ⟨_, rfl⟩
  have bw_b_0 : Below w.heap.size w w_b_0 := by rw [← hw_b_0]; exact (Below.refl _ _).alloc (Nat.le_refl _) _
  have HBw_b_0 := Lib.hid (Below.step HB.out bw_b_0)
  have Fq0__202 := cell_below bw_b_0 Fq0
  clear bw_b_0
  have kb_0_0 : w_b_0.cell? ⟨w.heap.size, 0, none⟩ = some (.int .i64 b_a) := by rw [← hw_b_0]; exact box_new _ _ _ 0 _ rfl
  have kb_0_1 : w_b_0.cell? ⟨w.heap.size, 1, none⟩ = some (.int .i64 b_x) := by rw [← hw_b_0]; exact box_new _ _ _ 1 _ rfl
  have kb_0_2 : w_b_0.cell? ⟨w.heap.size, 2, none⟩ = some (.int .i64 b_b) := by rw [← hw_b_0]; exact box_new _ _ _ 2 _ rfl
  have kb_0_3 : w_b_0.cell? ⟨w.heap.size, 3, none⟩ = some (.int .i64 b_y) := by rw [← hw_b_0]; exact box_new _ _ _ 3 _ rfl
  replace H := bind_hid H
  obtain ⟨t_4, qt_4, H⟩ := H
  go_wp2_with fail
  clear Fq0
  go_at_call 64
  refine (Go.Proofs.Ytekacbjnpeglhaa.GiForbids.C ((Go.Proofs.Ytekacbjnpeglhaa.PBan.Ban.mk b_a b_x b_b b_y)) (hq0) Ahq0 chq0 _   (Lib.hid (Cells.below Mhq0.out HBw_b_0.out)) Nhq0 qt_4).mono ?_
  rintro e_t_4 wt_4 ⟨rfl, bt_4⟩
  have HBwt_4 := Lib.hid (Below.step HBw_b_0.out bt_4)
  replace Fq0__202 := cell_below bt_4 Fq0__202
  replace kb_0_0 := cell_below bt_4 kb_0_0
  replace kb_0_1 := cell_below bt_4 kb_0_1
  replace kb_0_2 := cell_below bt_4 kb_0_2
  replace kb_0_3 := cell_below bt_4 kb_0_3
  clear bt_4
  obtain rfl := ret_hid H
  go_wp2_with fail
  go_ret
  exact ⟨rfl, HBwt_4.out⟩
end Go.Proofs.Ytekacbjnpeglhaa.GiIsCompatible1

/- slices.IndexFunc[[]loop.example/g01062/impl.Ban,loop.example/g01062/impl.Ban] as a plain function, and the contract of the program's: where the plain one has an answer, the program has it. Conditions: slices read as lists. -/
namespace Go.Proofs.Ytekacbjnpeglhaa.GxSlicesIndexFuncLoopExampleG01062ImplBanLoopExampleG01062ImplBaniIsCompatible1
set_option linter.unusedVariables false
set_option linter.unusedSimpArgs false
open Go.RowKit
open Go.Proofs.Ytekacbjnpeglhaa.Rowed Go.Proofs.Ytekacbjnpeglhaa.Turn Go.Proofs.Ytekacbjnpeglhaa.Aid Go.Proofs.Ytekacbjnpeglhaa.GoP Go.Proofs.Ytekacbjnpeglhaa.GoM

def l0 (s_0 : (List Go.Proofs.Ytekacbjnpeglhaa.PBan.Ban)) (hf1_0 : (List Int)) (k0 : Nat) (s : Unit) (nx0 bk0 : Unit → Option (Int)) : Option (Int) :=
  
  Option.bind (idx s_0 (k0 : Int)) fun (yt_10 : Go.Proofs.Ytekacbjnpeglhaa.PBan.Ban) =>
  unBan yt_10 fun (t_10_a : Int) (t_10_x : Int) (t_10_b : Int) (t_10_y : Int) =>
  Option.bind (Go.Proofs.Ytekacbjnpeglhaa.GiIsCompatible1.P (Go.Proofs.Ytekacbjnpeglhaa.PBan.Ban.mk t_10_a t_10_x t_10_b t_10_y) hf1_0) fun (t_12 : Bool) =>
  iteK t_12
  (some (k0 : Int))
  (appK nx0 ())

def e0  (s : Unit) : Option (Int) :=
  
  some (-1)

def P (s_0 : (List Go.Proofs.Ytekacbjnpeglhaa.PBan.Ban)) (hf1_0 : (List Int)) : Option (Int) :=
  cntK (l0 s_0 hf1_0) (s_0.length) 0 () (e0 )

set_option maxRecDepth 100000 in
set_option maxHeartbeats 2000000 in
theorem C (s_0 : (List Go.Proofs.Ytekacbjnpeglhaa.PBan.Ban)) (hf1_0 : (List Int)) (A0 : Option Addr) (c0 : Nat) (Ahf1_0 : Option Addr) (chf1_0 : Nat) (gf1_0 : Nat) (w : World) (M0 : Hid (Cells w 4 A0 s_0.length (Go.Proofs.Ytekacbjnpeglhaa.PBan.flat s_0))) (N0 : Hid (s_0.length ≤ 9223372036854775807)) (Mhf1_0 : Hid (Cells w 1 Ahf1_0 hf1_0.length (Go.Proofs.Ytekacbjnpeglhaa.HelpInt.iv hf1_0))) (Nhf1_0 : Hid (hf1_0.length ≤ 9223372036854775807)) (Ff1_0h : Hid (w.cell? ⟨gf1_0, 0, none⟩ = some (.slice Ahf1_0 hf1_0.length chf1_0))) {r : Int} (H : Hid (P s_0 hf1_0 = some r)) :
    Calls Try.prog 93 #[.slice A0 s_0.length c0, .func (.func 63) #[] #[.pointer (some ⟨gf1_0, 0, none⟩)]] w (Gives (.int .i64 r) w) := by
  have HB := Lib.hid (Below.refl w.heap.size w)
  unfold P at H
  have N0o := N0.out
  have Nhf1_0o := Nhf1_0.out
  have Ff1_0 := Ff1_0h.out
  go_enter Try.func93, Try.ntmps93
  go_wp2_with fail
  go_loopg [8] (s_0.length) (fun m_ v8_ wr => ∃ (k0 : Nat) , k0 + m_ = s_0.length ∧ v8_ = .int .i64 (k0 : Int) ∧ Hid (cntK (l0 s_0 hf1_0) m_ k0 () (e0 ) = some r) ∧ Hid (Below w.heap.size w wr) ∧ wr.cell? ⟨gf1_0, 0, none⟩ = some (.slice Ahf1_0 hf1_0.length chf1_0))
  case atStart => exact ⟨0, by omega, rfl, H, HB, Ff1_0⟩
  case round =>
    obtain ⟨k0, hkm0, rfl, H, HBwr0, Ff1_0⟩ := hrel
    rename World => wr0
    cases gk with
    | zero =>
      obtain rfl : k0 = s_0.length := by omega
      have hc0 : decide (((s_0.length : Nat) : Int) < ((s_0.length : Nat) : Int)) = false := by simp
      replace H := cnt_zero H
      unfold e0 at H
      obtain rfl := ret_hid H
      go_wp2_with fail
      go_ret
      exact ⟨rfl, HBwr0.out⟩
    | succ m0 =>
      have hlt0 : k0 < s_0.length := by omega
      have hc0 : decide ((k0 : Int) < ((s_0.length : Nat) : Int)) = true := by simp; omega
      replace H := cnt_succ H
      unfold l0 at H
      replace H := idx_hid H
      obtain ⟨nt_10, yt_10, et_10, lt_10, gt_10, H⟩ := H
      obtain rfl : k0 = nt_10 := by omega
      clear et_10
      obtain ⟨t_10_a, t_10_x, t_10_b, t_10_y⟩ := yt_10
      replace H := unBan_hid H
      obtain ⟨ab_t_10, ao_t_10, zt_10, At_10, z_t_10, ct_10_0, ct_10_1, ct_10_2, ct_10_3⟩ := Go.Proofs.Ytekacbjnpeglhaa.OBan.at_ M0.out lt_10
      obtain rfl := Option.some.inj (gt_10.out.symm.trans z_t_10)
      subst At_10
      have ltt_10 := cell_lt ct_10_0
      replace ct_10_0 := cell_below HBwr0.out ct_10_0
      replace ct_10_1 := cell_below HBwr0.out ct_10_1
      replace ct_10_2 := cell_below HBwr0.out ct_10_2
      replace ct_10_3 := cell_below HBwr0.out ct_10_3
      clear z_t_10
      have b0t_10 : (0 : Int) ≤ (k0 : Int) := by omega
      have b1t_10 : (k0 : Int) < ((s_0.length : Nat) : Int) := by omega
      have b2t_10 : ((k0 : Int)).toNat = k0 := by omega
      replace H := bind_hid H
      obtain ⟨t_12, qt_12, H⟩ := H
      go_wp2_with fail
      go_at_call 63
      refine (Go.Proofs.Ytekacbjnpeglhaa.GiIsCompatible1.C ((Go.Proofs.Ytekacbjnpeglhaa.PBan.Ban.mk t_10_a t_10_x t_10_b t_10_y)) (hf1_0) Ahf1_0 chf1_0 (gf1_0) _   (Lib.hid (Cells.below Mhf1_0.out HBwr0.out)) Nhf1_0 (Lib.hid Ff1_0) qt_12).mono ?_
      rintro e_t_12 wt_12 ⟨rfl, bt_12⟩
      have HBwt_12 := Lib.hid (Below.step HBwr0.out bt_12)
      replace Ff1_0 := cell_below bt_12 Ff1_0
      replace ct_10_0 := cell_below bt_12 ct_10_0
      replace ct_10_1 := cell_below bt_12 ct_10_1
      replace ct_10_2 := cell_below bt_12 ct_10_2
      replace ct_10_3 := cell_below bt_12 ct_10_3
      clear bt_12
      cases t_12 with
      | false =>
        replace H := ite_f H
        replace H := app_hid H
        go_wp2_with fail
        go_roundg m0
        case measure => omega
        case rel => exact ⟨k0 + 1, by omega, by go_num, H, HBwt_12, Ff1_0⟩
      | true =>
        replace H := ite_t H
        obtain rfl := ret_hid H
        go_wp2_with fail
        go_ret
        exact ⟨rfl, HBwt_12.out⟩
end Go.Proofs.Ytekacbjnpeglhaa.GxSlicesIndexFuncLoopExampleG01062ImplBanLoopExampleG01062ImplBaniIsCompatible1

/- slices.ContainsFunc[[]loop.example/g01062/impl.Ban,loop.example/g01062/impl.Ban] as a plain function, and the contract of the program's: where the plain one has an answer, the program has it. Conditions: slices read as lists. -/
namespace Go.Proofs.Ytekacbjnpeglhaa.GxSlicesContainsFuncLoopExampleG01062ImplBanLoopExampleG01062ImplBaniIsCompatible1
set_option linter.unusedVariables false
set_option linter.unusedSimpArgs false
open Go.RowKit
open Go.Proofs.Ytekacbjnpeglhaa.Rowed Go.Proofs.Ytekacbjnpeglhaa.Turn Go.Proofs.Ytekacbjnpeglhaa.Aid Go.Proofs.Ytekacbjnpeglhaa.GoP Go.Proofs.Ytekacbjnpeglhaa.GoM

def P (s_0 : (List Go.Proofs.Ytekacbjnpeglhaa.PBan.Ban)) (hf1_0 : (List Int)) : Option (Bool) :=
  Option.bind (Go.Proofs.Ytekacbjnpeglhaa.GxSlicesIndexFuncLoopExampleG01062ImplBanLoopExampleG01062ImplBaniIsCompatible1.P s_0 hf1_0) fun (t_3 : Int) =>
  letK (decide (0 ≤ t_3)) fun (t_4 : Bool) =>
  some t_4

set_option maxRecDepth 100000 in
set_option maxHeartbeats 2000000 in
theorem C (s_0 : (List Go.Proofs.Ytekacbjnpeglhaa.PBan.Ban)) (hf1_0 : (List Int)) (A0 : Option Addr) (c0 : Nat) (Ahf1_0 : Option Addr) (chf1_0 : Nat) (gf1_0 : Nat) (w : World) (M0 : Hid (Cells w 4 A0 s_0.length (Go.Proofs.Ytekacbjnpeglhaa.PBan.flat s_0))) (N0 : Hid (s_0.length ≤ 9223372036854775807)) (Mhf1_0 : Hid (Cells w 1 Ahf1_0 hf1_0.length (Go.Proofs.Ytekacbjnpeglhaa.HelpInt.iv hf1_0))) (Nhf1_0 : Hid (hf1_0.length ≤ 9223372036854775807)) (Ff1_0h : Hid (w.cell? ⟨gf1_0, 0, none⟩ = some (.slice Ahf1_0 hf1_0.length chf1_0))) {r : Bool} (H : Hid (P s_0 hf1_0 = some r)) :
    Calls Try.prog 62 #[.slice A0 s_0.length c0, .func (.func 63) #[] #[.pointer (some ⟨gf1_0, 0, none⟩)]] w (Gives (.bool r) w) := by
  have HB := Lib.hid (Below.refl w.heap.size w)
  unfold P at H
  have N0o := N0.out
  have Nhf1_0o := Nhf1_0.out
  have Ff1_0 := Ff1_0h.out
  go_enter Try.func62, Try.ntmps62
  replace H := bind_hid H
  obtain ⟨t_3, qt_3, H⟩ := H
  go_wp2_with fail
  go_at_call 93
  refine (Go.Proofs.Ytekacbjnpeglhaa.GxSlicesIndexFuncLoopExampleG01062ImplBanLoopExampleG01062ImplBaniIsCompatible1.C (s_0) (hf1_0) A0 c0 Ahf1_0 chf1_0 (gf1_0) _   (Lib.hid (Cells.below M0.out HB.out)) N0 (Lib.hid (Cells.below Mhf1_0.out HB.out)) Nhf1_0 (Lib.hid Ff1_0) qt_3).mono ?_
  rintro e_t_3 wt_3 ⟨rfl, bt_3⟩
  have HBwt_3 := Lib.hid (Below.step HB.out bt_3)
  replace Ff1_0 := cell_below bt_3 Ff1_0
  clear bt_3
  replace H := let_hid H
  obtain ⟨t_4, ht_4, H⟩ := H
  obtain rfl := ret_hid H
  go_wp2_with fail
  go_ret
  exact ⟨rfl, HBwt_3.out⟩
end Go.Proofs.Ytekacbjnpeglhaa.GxSlicesContainsFuncLoopExampleG01062ImplBanLoopExampleG01062ImplBaniIsCompatible1

/- loop.example/g01062/impl.IsCompatible as a plain function, and the contract of the program's: where the plain one has an answer, the program has it. Conditions: slices read as lists. -/
namespace Go.Proofs.Ytekacbjnpeglhaa.GiIsCompatible
set_option linter.unusedVariables false
set_option linter.unusedSimpArgs false
open Go.RowKit
open Go.Proofs.Ytekacbjnpeglhaa.Rowed Go.Proofs.Ytekacbjnpeglhaa.Turn Go.Proofs.Ytekacbjnpeglhaa.Aid Go.Proofs.Ytekacbjnpeglhaa.GoP Go.Proofs.Ytekacbjnpeglhaa.GoM

def P (t_sizes : (List Int)) (t_bans : (List Go.Proofs.Ytekacbjnpeglhaa.PBan.Ban)) (kind : (List Int)) : Option (Bool × Bool) :=
  Option.bind (Go.Proofs.Ytekacbjnpeglhaa.GiIsKind.P t_sizes t_bans kind) fun (t_6 : Bool) =>
  letK (!t_6) fun (t_7 : Bool) =>
  iteK t_7
  (some (false, false))
  (Option.bind (Go.Proofs.Ytekacbjnpeglhaa.GxSlicesContainsFuncLoopExampleG01062ImplBanLoopExampleG01062ImplBaniIsCompatible1.P t_bans kind) fun (t_13 : Bool) =>
  letK (!t_13) fun (t_16 : Bool) =>
  some (t_16, true))

set_option maxRecDepth 100000 in
set_option maxHeartbeats 2000000 in
theorem C (t_sizes : (List Int)) (t_bans : (List Go.Proofs.Ytekacbjnpeglhaa.PBan.Ban)) (kind : (List Int)) (A0_0 : Option Addr) (c0_0 : Nat) (A0_1 : Option Addr) (c0_1 : Nat) (A1 : Option Addr) (c1 : Nat)  (w : World) (M0_0 : Hid (Cells w 1 A0_0 t_sizes.length (Go.Proofs.Ytekacbjnpeglhaa.HelpInt.iv t_sizes))) (N0_0 : Hid (t_sizes.length ≤ 9223372036854775807)) (M0_1 : Hid (Cells w 4 A0_1 t_bans.length (Go.Proofs.Ytekacbjnpeglhaa.PBan.flat t_bans))) (N0_1 : Hid (t_bans.length ≤ 9223372036854775807)) (M1 : Hid (Cells w 1 A1 kind.length (Go.Proofs.Ytekacbjnpeglhaa.HelpInt.iv kind))) (N1 : Hid (kind.length ≤ 9223372036854775807))  {r0 : Bool} {r1 : Bool} (H : Hid (P t_sizes t_bans kind = some (r0, r1))) :
    Calls Try.prog 20 #[.agg #[.slice A0_0 t_sizes.length c0_0, .slice A0_1 t_bans.length c0_1], .slice A1 kind.length c1] w (Gives (.tuple #[.bool r0, .bool r1]) w) := by
  have HB := Lib.hid (Below.refl w.heap.size w)
  unfold P at H
  have N0_0o := N0_0.out
  have N0_1o := N0_1.out
  have N1o := N1.out
  go_enter Try.func20, Try.ntmps20
  obtain ⟨w_t_0, hw_t_0⟩ : ∃ x, w.alloc (.cells #[.slice A0_0 t_sizes.length c0_0, .slice A0_1 t_bans.length c0_1] 30) = x := ⟨_, rfl⟩
  have bw_t_0 : Below w.heap.size w w_t_0 := by rw [← hw_t_0]; exact (Below.refl _ _).alloc (Nat.le_refl _) _
  have HBw_t_0 := Lib.hid (Below.step HB.out bw_t_0)
  clear bw_t_0
  have kt_0_0 : w_t_0.cell? ⟨w.heap.size, 0, none⟩ = some (.slice A0_0 t_sizes.length c0_0) := by rw [← hw_t_0]; exact box_new _ _ _ 0 _ rfl
  have kt_0_1 : w_t_0.cell? ⟨w.heap.size, 1, none⟩ = some (.slice A0_1 t_bans.length c0_1) := by rw [← hw_t_0]; exact box_new _ _ _ 1 _ rfl
  obtain ⟨w_kind_1, hw_kind_1⟩ : ∃ x, w_t_0.alloc (.cells #[.slice A1 kind.length c1] 22) = x := ⟨_, rfl⟩
  have bw_kind_1 : Below w_t_0.heap.size w_t_0 w_kind_1 := by rw [← hw_kind_1]; exact (Below.refl _ _).alloc (Nat.le_refl _) _
  have HBw_kind_1 := Lib.hid (Below.step HBw_t_0.out bw_kind_1)
  have kt_0_0__203 := cell_below bw_kind_1 kt_0_0
  have kt_0_1__204 := cell_below bw_kind_1 kt_0_1
  clear bw_kind_1
  have kkind_1_0 : w_kind_1.cell? ⟨w_t_0.heap.size, 0, none⟩ = some (.slice A1 kind.length c1) := by rw [← hw_kind_1]; exact box_new _ _ _ 0 _ rfl
  replace H := bind_hid H
  obtain ⟨t_6, qt_6, H⟩ := H
  go_wp2_with fail
  clear kt_0_0 kt_0_1
  go_at_call 61
  refine (Go.Proofs.Ytekacbjnpeglhaa.GiIsKind.C (t_sizes) (t_bans) (kind) A0_0 c0_0 A0_1 c0_1 A1 c1 _   (Lib.hid (Cells.below M0_0.out HBw_kind_1.out)) N0_0 (Lib.hid (Cells.below M0_1.out HBw_kind_1.out)) N0_1 (Lib.hid (Cells.below M1.out HBw_kind_1.out)) N1 qt_6).mono ?_
  rintro e_t_6 wt_6 ⟨rfl, bt_6⟩
  have HBwt_6 := Lib.hid (Below.step HBw_kind_1.out bt_6)
  replace kt_0_0__203 := cell_below bt_6 kt_0_0__203
  replace kt_0_1__204 := cell_below bt_6 kt_0_1__204
  replace kkind_1_0 := cell_below bt_6 kkind_1_0
  clear bt_6
  cases t_6 with
  | false =>
    replace H := let_hid H
    obtain ⟨t_7, ht_7, H⟩ := H
    obtain rfl : t_7 = true := ht_7.symm
    replace H := ite_t H
    cases ret_hid H
    go_wp2_with fail
    go_ret2
    exact ⟨rfl, HBwt_6.out⟩
  | true =>
    replace H := let_hid H
    obtain ⟨t_7, ht_7, H⟩ := H
    obtain rfl : t_7 = false := ht_7.symm
    replace H := ite_f H
    replace H := bind_hid H
    obtain ⟨t_13, qt_13, H⟩ := H
    go_wp2_with fail
    go_at_call 62
    refine (Go.Proofs.Ytekacbjnpeglhaa.GxSlicesContainsFuncLoopExampleG01062ImplBanLoopExampleG01062ImplBaniIsCompatible1.C (t_bans) (kind) A0_1 c0_1 A1 c1 (w_t_0.heap.size) _   (Lib.hid (Cells.below M0_1.out HBwt_6.out)) N0_1 (Lib.hid (Cells.below M1.out HBwt_6.out)) N1 (Lib.hid kkind_1_0) qt_13).mono ?_
    rintro e_t_13 wt_13 ⟨rfl, bt_13⟩
    have HBwt_13 := Lib.hid (Below.step HBwt_6.out bt_13)
    replace kt_0_0__203 := cell_below bt_13 kt_0_0__203
    replace kt_0_1__204 := cell_below bt_13 kt_0_1__204
    replace kkind_1_0 := cell_below bt_13 kkind_1_0
    clear bt_13
    cases t_13 with
    | false =>
      replace H := let_hid H
      obtain ⟨t_16, ht_16, H⟩ := H
      obtain rfl : t_16 = true := ht_16.symm
      cases ret_hid H
      go_wp2_with fail
      go_ret2
      exact ⟨rfl, HBwt_13.out⟩
    | true =>
      replace H := let_hid H
      obtain ⟨t_16, ht_16, H⟩ := H
      obtain rfl : t_16 = false := ht_16.symm
      cases ret_hid H
      go_wp2_with fail
      go_ret2
      exact ⟨rfl, HBwt_13.out⟩
end Go.Proofs.Ytekacbjnpeglhaa.GiIsCompatible

/- loop.example/g01062/spec.l6Kind as a plain function, and the contract of the program's: where the plain one has an answer, the program has it. Conditions: slices read as lists. -/
namespace Go.Proofs.Ytekacbjnpeglhaa.GsL6Kind
set_option linter.unusedVariables false
set_option linter.unusedSimpArgs false
open Go.RowKit
open Go.Proofs.Ytekacbjnpeglhaa.Rowed Go.Proofs.Ytekacbjnpeglhaa.Turn Go.Proofs.Ytekacbjnpeglhaa.Aid Go.Proofs.Ytekacbjnpeglhaa.GoP Go.Proofs.Ytekacbjnpeglhaa.GoM

def l0 (t_sizes : (List Int)) (kind : (List Int)) (k0 : Nat) (s : Unit) (nx0 bk0 : Unit → Option (Bool)) : Option (Bool) :=
  
  Option.bind (idx kind (k0 : Int)) fun (yt_16 : Int) =>
  Option.bind (idx t_sizes (k0 : Int)) fun (yt_21 : Int) =>
  letK (IntKind.i64.wrap (yt_21 - 1)) fun (t_23 : Int) =>
  Option.bind (Go.Proofs.Ytekacbjnpeglhaa.GsL1In.P yt_16 0 t_23) fun (t_24 : Bool) =>
  letK (!t_24) fun (t_25 : Bool) =>
  iteK t_25
  (some false)
  (appK nx0 ())

def e0  (s : Unit) : Option (Bool) :=
  
  some true

def P (t_sizes : (List Int)) (t_bans : (List Go.Proofs.Ytekacbjnpeglhaa.PBan.Ban)) (kind : (List Int)) : Option (Bool) :=
  letK ((kind.length : Int) != (t_sizes.length : Int)) fun (t_7 : Bool) =>
  iteK t_7
  (some false)
  (cntK (l0 t_sizes kind) (kind.length) 0 () (e0 ))

set_option maxRecDepth 100000 in
set_option maxHeartbeats 2000000 in
theorem C (t_sizes : (List Int)) (t_bans : (List Go.Proofs.Ytekacbjnpeglhaa.PBan.Ban)) (kind : (List Int)) (A0_0 : Option Addr) (c0_0 : Nat) (A0_1 : Option Addr) (c0_1 : Nat) (A1 : Option Addr) (c1 : Nat)  (w : World) (M0_0 : Hid (Cells w 1 A0_0 t_sizes.length (Go.Proofs.Ytekacbjnpeglhaa.HelpInt.iv t_sizes))) (N0_0 : Hid (t_sizes.length ≤ 9223372036854775807)) (M0_1 : Hid (Cells w 4 A0_1 t_bans.length (Go.Proofs.Ytekacbjnpeglhaa.PBan.flat t_bans))) (N0_1 : Hid (t_bans.length ≤ 9223372036854775807)) (M1 : Hid (Cells w 1 A1 kind.length (Go.Proofs.Ytekacbjnpeglhaa.HelpInt.iv kind))) (N1 : Hid (kind.length ≤ 9223372036854775807))  {r : Bool} (H : Hid (P t_sizes t_bans kind = some r)) :
    Calls Try.prog 59 #[.agg #[.slice A0_0 t_sizes.length c0_0, .slice A0_1 t_bans.length c0_1], .slice A1 kind.length c1] w (Gives (.bool r) w) := by
  have HB := Lib.hid (Below.refl w.heap.size w)
  unfold P at H
  have N0_0o := N0_0.out
  have N0_1o := N0_1.out
  have N1o := N1.out
  go_enter Try.func59, Try.ntmps59
  obtain ⟨w_t_0, hw_t_0⟩ : ∃ x, w.alloc (.cells #[.slice A0_0 t_sizes.length c0_0, .slice A0_1 t_bans.length c0_1] 30) = x := ⟨_, rfl⟩
  have bw_t_0 : Below w.heap.size w w_t_0 := by rw [← hw_t_0]; exact (Below.refl _ _).alloc (Nat.le_refl _) _
  have HBw_t_0 := Lib.hid (Below.step HB.out bw_t_0)
  clear bw_t_0
  have kt_0_0 : w_t_0.cell? ⟨w.heap.size, 0, none⟩ = some (.slice A0_0 t_sizes.length c0_0) := by rw [← hw_t_0]; exact box_new _ _ _ 0 _ rfl
  have kt_0_1 : w_t_0.cell? ⟨w.heap.size, 1, none⟩ = some (.slice A0_1 t_bans.length c0_1) := by rw [← hw_t_0]; exact box_new _ _ _ 1 _ rfl
  replace H := let_hid H
  obtain ⟨t_7, ht_7, H⟩ := H
  cases t_7 with
  | false =>
    have Hht_7 : Hid (kind.length = t_sizes.length) := Lib.hid (by have := bne_eq_false_iff_eq.1 ht_7; omega)
    have nht_7 : (kind.length == t_sizes.length) = true := beq_iff_eq.2 Hht_7.out
    replace H := ite_f H
    go_wp2_with fail
    go_loopg [5] (kind.length) (fun m_ v5_ wr => ∃ (k0 : Nat) , k0 + m_ = kind.length ∧ v5_ = .int .i64 (k0 : Int) ∧ Hid (cntK (l0 t_sizes kind) m_ k0 () (e0 ) = some r) ∧ Hid (Below w.heap.size w wr) ∧ wr.cell? ⟨w.heap.size, 0, none⟩ = some (.slice A0_0 t_sizes.length c0_0) ∧ wr.cell? ⟨w.heap.size, 1, none⟩ = some (.slice A0_1 t_bans.length c0_1))
    case atStart => exact ⟨0, by omega, rfl, H, HBw_t_0, kt_0_0, kt_0_1⟩
    case round =>
      obtain ⟨k0, hkm0, rfl, H, HBwr0, kt_0_0, kt_0_1⟩ := hrel
      rename World => wr0
      cases gk with
      | zero =>
        obtain rfl : k0 = kind.length := by omega
        have hc0 : decide (((kind.length : Nat) : Int) < ((kind.length : Nat) : Int)) = false := by simp
        replace H := cnt_zero H
        unfold e0 at H
        obtain rfl := ret_hid H
        go_wp2_with fail
        go_ret
        exact ⟨rfl, HBwr0.out⟩
      | succ m0 =>
        have hlt0 : k0 < kind.length := by omega
        have hc0 : decide ((k0 : Int) < ((kind.length : Nat) : Int)) = true := by simp; omega
        replace H := cnt_succ H
        unfold l0 at H
        go_wp2_with fail
        have Hkt_0_0 := Lib.hid kt_0_0
        replace kt_0_0 := cell_regrown kt_0_0
        have Hkt_0_1 := Lib.hid kt_0_1
        replace kt_0_1 := cell_regrown kt_0_1
        replace H := idx_hid H
        obtain ⟨nt_16, yt_16, et_16, lt_16, gt_16, H⟩ := H
        obtain rfl : k0 = nt_16 := by omega
        clear et_16
        obtain ⟨ab_t_16, ao_t_16, zt_16, At_16, z_t_16, ct_16_0⟩ := Go.Proofs.Ytekacbjnpeglhaa.HelpInt.Ints.at_ M1.out lt_16
        obtain rfl := Option.some.inj (gt_16.out.symm.trans z_t_16)
        subst At_16
        have ltt_16 := cell_lt ct_16_0
        replace ct_16_0 := cell_below HBwr0.out ct_16_0
        clear z_t_16
        have b0t_16 : (0 : Int) ≤ (k0 : Int) := by omega
        have b1t_16 : (k0 : Int) < ((kind.length : Nat) : Int) := by omega
        have b2t_16 : ((k0 : Int)).toNat = k0 := by omega
        have Hct_16_0 := Lib.hid ct_16_0
        replace ct_16_0 := cell_regrown ct_16_0
        replace H := idx_hid H
        obtain ⟨nt_21, yt_21, et_21, lt_21, gt_21, H⟩ := H
        obtain rfl : k0 = nt_21 := by omega
        clear et_21
        obtain ⟨ab_t_21, ao_t_21, zt_21, At_21, z_t_21, ct_21_0⟩ := Go.Proofs.Ytekacbjnpeglhaa.HelpInt.Ints.at_ M0_0.out lt_21
        obtain rfl := Option.some.inj (gt_21.out.symm.trans z_t_21)
        subst At_21
        have ltt_21 := cell_lt ct_21_0
        replace ct_21_0 := cell_below HBwr0.out ct_21_0
        clear z_t_21
        have b0t_21 : (0 : Int) ≤ (k0 : Int) := by omega
        have b1t_21 : (k0 : Int) < ((t_sizes.length : Nat) : Int) := by omega
        have b2t_21 : ((k0 : Int)).toNat = k0 := by omega
        have Hct_21_0 := Lib.hid ct_21_0
        replace ct_21_0 := cell_regrown ct_21_0
        replace H := let_hid H
        obtain ⟨t_23, ht_23, H⟩ := H
        replace H := bind_hid H
        obtain ⟨t_24, qt_24, H⟩ := H
        have nt_24 : ∀ d os, Calls Try.prog 89 #[.int .i64 yt_16, .int .i64 0, .int .i64 t_23] (Go.Sort.grow (redrawn wr0 d) os) fun e w'' => e = .returned (.bool t_24) ∧ ∃ p : Regrown, w'' = Go.Sort.grow (redrawn wr0 p.d) p.os := fun d os => Calls.regrown_of (Go.Proofs.Ytekacbjnpeglhaa.GsL1In.C (yt_16) (0) (t_23)  _    qt_24)
        cases t_24 with
        | false =>
          replace H := let_hid H
          obtain ⟨t_25, ht_25, H⟩ := H
          obtain rfl : t_25 = true := ht_25.symm
          refine wp_region_quiet_below (by kernel_rfl) (by kernel_rfl) ?_
          repeat (go_big_quiet_step (first | (go_at_call 89; exact nt_24 _ _)))
          refine wpQuiet_nil ?_
          intro Y6 hY6
          replace hY6 := below_class hY6
          clear nt_24
          replace kt_0_0 := Hkt_0_0.out
          clear Hkt_0_0
          replace kt_0_1 := Hkt_0_1.out
          clear Hkt_0_1
          replace ct_16_0 := Hct_16_0.out
          clear Hct_16_0
          replace ct_21_0 := Hct_21_0.out
          clear Hct_21_0
          have HBY6 := Lib.hid (Below.step HBwr0.out hY6)
          replace kt_0_0 := cell_below hY6 kt_0_0
          replace kt_0_1 := cell_below hY6 kt_0_1
          replace ct_16_0 := cell_below hY6 ct_16_0
          replace ct_21_0 := cell_below hY6 ct_21_0
          clear hY6
          replace H := ite_t H
          obtain rfl := ret_hid H
          go_wp2_with fail
          go_ret
          exact ⟨rfl, HBY6.out⟩
        | true =>
          replace H := let_hid H
          obtain ⟨t_25, ht_25, H⟩ := H
          obtain rfl : t_25 = false := ht_25.symm
          refine wp_region_quiet_below (by kernel_rfl) (by kernel_rfl) ?_
          repeat (go_big_quiet_step (first | (go_at_call 89; exact nt_24 _ _)))
          refine wpQuiet_nil ?_
          intro Y6 hY6
          replace hY6 := below_class hY6
          clear nt_24
          replace kt_0_0 := Hkt_0_0.out
          clear Hkt_0_0
          replace kt_0_1 := Hkt_0_1.out
          clear Hkt_0_1
          replace ct_16_0 := Hct_16_0.out
          clear Hct_16_0
          replace ct_21_0 := Hct_21_0.out
          clear Hct_21_0
          have HBY6 := Lib.hid (Below.step HBwr0.out hY6)
          replace kt_0_0 := cell_below hY6 kt_0_0
          replace kt_0_1 := cell_below hY6 kt_0_1
          replace ct_16_0 := cell_below hY6 ct_16_0
          replace ct_21_0 := cell_below hY6 ct_21_0
          clear hY6
          replace H := ite_f H
          replace H := app_hid H
          go_wp2_with fail
          go_roundg m0
          case measure => omega
          case rel => exact ⟨k0 + 1, by omega, by go_num, H, HBY6, kt_0_0, kt_0_1⟩
  | true =>
    have nht_7 : ¬ (kind.length = t_sizes.length) := by have := bne_iff_ne.1 ht_7; omega
    replace H := ite_t H
    obtain rfl := ret_hid H
    go_wp2_with fail
    go_ret
    exact ⟨rfl, HBw_t_0.out⟩
end Go.Proofs.Ytekacbjnpeglhaa.GsL6Kind

/- Chapter 6: tables of kinds: the plain functions of the program and of the reference agree, and the laws answer true. (Q6Kind) No condition but those of each theorem. -/
namespace Go.Proofs.Ytekacbjnpeglhaa.Q6Kind
set_option linter.unusedVariables false
set_option linter.unusedSimpArgs false
open Go.RowKit
open Go.Proofs.Ytekacbjnpeglhaa.GoP Go.Proofs.Ytekacbjnpeglhaa.PlainStamp Go.Proofs.Ytekacbjnpeglhaa.QBase Go.Proofs.Ytekacbjnpeglhaa.Q6Tab Go.Proofs.Ytekacbjnpeglhaa.Q6Ban Go.Proofs.Ytekacbjnpeglhaa.QLoop Go.Proofs.Ytekacbjnpeglhaa.QAll Go.Proofs.Ytekacbjnpeglhaa.PBan

def okV (s k : List Int) (i : Nat) : Bool := match s[i]?, k[i]? with | some z, some v => inB v 0 (z - 1) | _, _ => true
def okK (s k : List Int) : Bool := decide (k.length = s.length) && allN k.length (okV s k)
theorem okK_len {s k : List Int} (h : okK s k = true) : k.length = s.length := by
  unfold okK at h; simp only [Bool.and_eq_true, decide_eq_true_eq] at h; exact h.1
theorem okK_at {s k : List Int} (h : okK s k = true) {i : Nat} {z v : Int} (hz : s[i]? = some z) (hv : k[i]? = some v) : 0 ≤ v ∧ v < z := by
  unfold okK at h
  simp only [Bool.and_eq_true, decide_eq_true_eq] at h
  have := allN_iff.1 h.2 i (List.getElem?_eq_some_iff.1 hv).1
  unfold okV at this
  rw [hz, hv] at this
  have := inB_of this
  omega
theorem okK_mk {s k : List Int} (hl : k.length = s.length) (h : ∀ (i : Nat) (z v : Int), s[i]? = some z → k[i]? = some v → 0 ≤ v ∧ v < z) : okK s k = true := by
  unfold okK
  simp only [Bool.and_eq_true, decide_eq_true_eq]
  refine ⟨hl, allN_iff.2 fun i hi => ?_⟩
  obtain ⟨v, hv, _⟩ := at_lt (l := k) (k := i) hi
  obtain ⟨z, hz, _⟩ := at_lt (l := s) (k := i) (by omega)
  unfold okV
  rw [hz, hv]
  have := h i z v hz hv
  exact inB_yes (by omega) (by omega)
theorem isKind_eq (s : List Int) (l : List Ban) (k : List Int) (hs : s.length ≤ 9223372036854775807) (hl : l.length ≤ 9223372036854775807) : GiIsKind.P s l k = some (okT s l && okK s k) := by
  simp only [GiIsKind.P, isTable_eq s l hs hl, Option.bind_some, letK, joinK, appK, iteK_if]
  cases ht : okT s l with
  | false => simp
  | true =>
    obtain ⟨t1, t2, t3, t4, t5⟩ := okT_of ht
    by_cases hk : k.length = s.length
    · have e1 : ((k.length : Int) != (s.length : Int)) = false := by rw [hk]; simp
      simp only [e1, Bool.not_true, Bool.false_eq_true, if_false, Bool.true_and]
      rw [all_cnt (p := okV s k) (no := false)]
      · unfold okK; cases allN k.length (okV s k) <;> simp [hk, GiIsKind.e0]
      · intro i nx hi
        obtain ⟨v, hv, hvi⟩ := at_lt (l := k) (k := i) hi
        obtain ⟨z, hz, _⟩ := at_lt (l := s) (k := i) (by omega)
        simp only [GiIsKind.l0, hvi, Option.bind_some, hasValue_eq s t4 (by omega), letK, appK, iteK_if]
        have e2 : inB (i : Int) 0 (s.length - 1) = true := inB_yes (by omega) (by omega)
        have e3 : okV s k i = inB v 0 (z - 1) := by unfold okV; rw [hz, hv]
        have e4 : hasV s (i : Int) v = inB v 0 (z - 1) := by unfold hasV; rw [e2, Int.toNat_natCast, hz]; simp
        rw [e3, e4]
        exact ⟨fun h => by simp [h], fun h => by simp [h]⟩
    · have e1 : ((k.length : Int) != (s.length : Int)) = true := by simp; omega
      unfold okK
      simp [e1, hk]
theorem l6Kind_eq {s : List Int} {l : List Ban} (ht : okT s l = true) (k : List Int) : GsL6Kind.P s l k = some (okK s k) := by
  obtain ⟨t1, t2, t3, t4, t5⟩ := okT_of ht
  simp only [GsL6Kind.P, letK, iteK_if]
  by_cases hk : k.length = s.length
  · have e1 : ((k.length : Int) != (s.length : Int)) = false := by rw [hk]; simp
    simp only [e1, Bool.false_eq_true, if_false]
    rw [all_cnt (p := okV s k) (no := false)]
    · unfold okK; cases allN k.length (okV s k) <;> simp [hk, GsL6Kind.e0]
    · intro i nx hi
      obtain ⟨v, hv, hvi⟩ := at_lt (l := k) (k := i) hi
      obtain ⟨z, hz, hzi⟩ := at_lt (l := s) (k := i) (by omega)
      have hz2 := okS_at t4 hz
      simp only [GsL6Kind.l0, hvi, hzi, Option.bind_some, l1In_eq, letK, appK, iteK_if]
      rw [wrap_in (by omega) (by omega)]
      have e3 : okV s k i = inB v 0 (z - 1) := by unfold okV; rw [hz, hv]
      rw [e3]
      exact ⟨fun h => by simp [h], fun h => by simp [h]⟩
  · have e1 : ((k.length : Int) != (s.length : Int)) = true := by simp; omega
    unfold okK
    simp [e1, hk]
/-- does the ban forbid the kind -/
def frb (k : List Int) (b : Ban) : Bool := (k[b.a.toNat]?.getD 0 == b.x) && (k[b.b.toNat]?.getD 0 == b.y)
def free (l : List Ban) (k : List Int) : Bool := l.all fun b => !frb k b
theorem okB_nat {s : List Int} (hs : okS s = true) (hl : s.length ≤ 5) {b : Ban} (h : okB s b = true) : ∃ i j : Nat, b.a = (i : Int) ∧ b.b = (j : Int) ∧ i < j ∧ j < s.length := by
  have := okB_in hs hl h
  exact ⟨b.a.toNat, b.b.toNat, by omega, by omega, by omega, by omega⟩
theorem forbids_eq {s : List Int} (hs : okS s = true) (hl : s.length ≤ 5) {b : Ban} (h : okB s b = true) {k : List Int} (hk : k.length = s.length) : GiForbids.P b k = some (frb k b) := by
  obtain ⟨i, j, h1, h2, h3, h4⟩ := okB_nat hs hl h
  obtain ⟨a, x, c, y⟩ := b
  dsimp only at h1 h2
  subst h1; subst h2
  obtain ⟨u, hu, hui⟩ := at_lt (l := k) (k := i) (by omega)
  obtain ⟨v, hv, hvi⟩ := at_lt (l := k) (k := j) (by omega)
  simp only [GiForbids.P, unBan, hui, hvi, Option.bind_some, letK, joinK, appK, iteK_if, frb, Int.toNat_natCast, hu, hv, Option.getD_some]
  cases u == x <;> simp
theorem bans_at {s : List Int} {l : List Ban} (ht : okT s l = true) {i : Nat} {b : Ban} (hb : l[i]? = some b) : okB s b = true := (okT_of ht).2.2.2.2 b (List.mem_of_getElem? hb)
theorem free_allN (l : List Ban) (k : List Int) : free l k = allN l.length fun i => match l[i]? with | some b => !frb k b | none => true := by
  rw [Bool.eq_iff_iff, allN_iff]
  unfold free
  rw [List.all_eq_true]
  constructor
  · intro h i hi
    obtain ⟨b, hb, _⟩ := at_lt (l := l) (k := i) hi
    simp only [hb]
    exact h b (List.mem_of_getElem? hb)
  · intro h b hb
    obtain ⟨i, hi⟩ := List.getElem?_of_mem hb
    have := h i (List.getElem?_eq_some_iff.1 hi).1
    simpa only [hi] using this
theorem contains_eq {s : List Int} {l : List Ban} (ht : okT s l = true) {k : List Int} (hk : k.length = s.length) :
    GxSlicesContainsFuncLoopExampleG01062ImplBanLoopExampleG01062ImplBaniIsCompatible1.P l k = some (!free l k) := by
  obtain ⟨t1, t2, t3, t4, t5⟩ := okT_of ht
  simp only [GxSlicesContainsFuncLoopExampleG01062ImplBanLoopExampleG01062ImplBaniIsCompatible1.P, letK]
  obtain ⟨c, hc, hi⟩ : ∃ c, GxSlicesIndexFuncLoopExampleG01062ImplBanLoopExampleG01062ImplBaniIsCompatible1.P l k = some c ∧ (0 ≤ c ↔ free l k = false) := by
    simp only [GxSlicesIndexFuncLoopExampleG01062ImplBanLoopExampleG01062ImplBaniIsCompatible1.P]
    refine cnt_ex (n := l.length) (Q := fun c => 0 ≤ c ↔ free l k = false) (fun j _ => ∀ i b, i < j → l[i]? = some b → frb k b = false) ?_ ?_ l.length 0 () (by omega) (fun i b hi _ => by omega)
    · intro j _ nx hj hI hn
      obtain ⟨b, hb, hbi⟩ := at_lt (l := l) (k := j) hj
      simp only [GxSlicesIndexFuncLoopExampleG01062ImplBanLoopExampleG01062ImplBaniIsCompatible1.l0, hbi, Option.bind_some, unBan, GiIsCompatible1.P, forbids_eq t4 t2 (t5 b (List.mem_of_getElem? hb)) hk, appK, iteK_if]
      cases hf : frb k b with
      | true =>
        refine ⟨_, by rw [if_pos rfl], ⟨fun _ => ?_, fun _ => by omega⟩⟩
        rw [Bool.eq_false_iff]
        intro ha
        have := List.all_eq_true.1 ha b (List.mem_of_getElem? hb)
        rw [hf] at this; simp at this
      | false =>
        rw [if_neg (by simp)]
        refine hn () (fun i b' hi hb' => ?_)
        by_cases he : i = j
        · subst he; obtain rfl := Option.some.inj (hb.symm.trans hb'); exact hf
        · exact hI i b' (by omega) hb'
    · intro _ hI
      refine ⟨_, rfl, ⟨fun h => by omega, fun h => ?_⟩⟩
      exfalso
      rw [Bool.eq_false_iff] at h
      refine h (List.all_eq_true.2 fun b hb => ?_)
      obtain ⟨i, hi⟩ := List.getElem?_of_mem hb
      rw [hI i b (List.getElem?_eq_some_iff.1 hi).1 hi]; rfl
  rw [hc]
  simp only [Option.bind_some]
  cases hf : free l k with
  | false => rw [decide_eq_true (hi.2 hf)]; rfl
  | true => rw [decide_eq_false (fun h => by rw [hi.1 h] at hf; exact absurd hf (by simp))]; rfl
theorem l6Free_eq {s : List Int} {l : List Ban} (ht : okT s l = true) {k : List Int} (hk : k.length = s.length) (fuel : Nat) (hf : 21 ≤ fuel) : GsL6Free.P fuel s l k = some (free l k) := by
  obtain ⟨t1, t2, t3, t4, t5⟩ := okT_of ht
  simp only [GsL6Free.P]
  rw [all_lp (n := l.length) (p := fun i => match l[i]? with | some b => !frb k b | none => true) (no := false)]
  · rw [free_allN]
    cases allN l.length (fun i => match l[i]? with | some b => !frb k b | none => true) <;> simp [GsL6Free.e0, letK]
  · intro i nx hi
    obtain ⟨b, hb, hbi⟩ := at_lt (l := l) (k := i) hi
    obtain ⟨p, q, h1, h2, h3, h4⟩ := okB_nat t4 t2 (t5 b (List.mem_of_getElem? hb))
    have hlt0 : (i : Int) < (l.length : Int) := by omega
    simp only [hb]
    obtain ⟨a, x, c, y⟩ := b
    dsimp only at h1 h2
    subst h1; subst h2
    obtain ⟨u, hu, hui⟩ := at_lt (l := k) (k := p) (by omega)
    obtain ⟨v, hv, hvi⟩ := at_lt (l := k) (k := q) (by omega)
    simp only [GsL6Free.l0, letK, hlt0, decide_true, hbi, Option.bind_some, unBan, hui, hvi, joinK, appK, iteK_if, if_true, frb, Int.toNat_natCast, hu, hv, Option.getD_some]
    rw [next_i (by omega)]
    cases u == x <;> cases v == y <;> simp
  · intro nx
    simp [GsL6Free.l0, letK, appK, iteK_if]
  · omega
theorem compat_impl (s : List Int) (l : List Ban) (k : List Int) (hs : s.length ≤ 9223372036854775807) (hl : l.length ≤ 9223372036854775807) :
    GiIsCompatible.P s l k = some (okT s l && okK s k && free l k, okT s l && okK s k) := by
  simp only [GiIsCompatible.P, isKind_eq s l k hs hl, Option.bind_some, letK, iteK_if]
  cases ht : okT s l with
  | false => simp
  | true =>
    cases hk : okK s k with
    | false => simp
    | true => simp [contains_eq ht (okK_len hk)]
end Go.Proofs.Ytekacbjnpeglhaa.Q6Kind

/- Chapter 6: kinds in their order, as numbers: the program's search and the reference's. (Q6Num) No condition but those of each theorem. -/
namespace Go.Proofs.Ytekacbjnpeglhaa.Q6Num
set_option linter.unusedVariables false
set_option linter.unusedSimpArgs false
open Go.RowKit
open Go.Proofs.Ytekacbjnpeglhaa.GoP Go.Proofs.Ytekacbjnpeglhaa.PlainStamp Go.Proofs.Ytekacbjnpeglhaa.QBase Go.Proofs.Ytekacbjnpeglhaa.Q6Kind Go.Proofs.Ytekacbjnpeglhaa.Q6Tab Go.Proofs.Ytekacbjnpeglhaa.Q6Ban Go.Proofs.Ytekacbjnpeglhaa.QLoop Go.Proofs.Ytekacbjnpeglhaa.QAll Go.Proofs.Ytekacbjnpeglhaa.PBan

def prod : List Int → Int
  | [] => 1
  | z :: s => z * prod s
def num : List Int → List Int → Int
  | z :: s, v :: k => v * prod s + num s k
  | _, _ => 0
def pos (s : List Int) : Prop := ∀ z ∈ s, 0 < z
theorem pos_of {s : List Int} (h : okS s = true) : pos s := by
  intro z hz
  obtain ⟨i, hi⟩ := List.getElem?_of_mem hz
  have := okS_at h hi
  omega
theorem pos_take {s : List Int} (h : pos s) (n : Nat) : pos (s.take n) := fun z hz => h z (List.mem_of_mem_take hz)
theorem pos_drop {s : List Int} (h : pos s) (n : Nat) : pos (s.drop n) := fun z hz => h z (List.mem_of_mem_drop hz)
theorem prod_pos {s : List Int} (h : pos s) : 0 < prod s := by
  induction s with
  | nil => simp [prod]
  | cons z s ih => exact Int.mul_pos (h z (by simp)) (ih (fun y hy => h y (by simp [hy])))
theorem okK_cons {z v : Int} {s k : List Int} : okK (z :: s) (v :: k) = true ↔ (0 ≤ v ∧ v < z) ∧ okK s k = true := by
  constructor
  · intro h
    refine ⟨okK_at h (i := 0) rfl rfl, okK_mk (by have := okK_len h; simpa using this) fun i z' v' hz hv => okK_at h (i := i + 1) (by simpa using hz) (by simpa using hv)⟩
  · rintro ⟨h1, h2⟩
    refine okK_mk (by have := okK_len h2; simpa using this) fun i z' v' hz hv => ?_
    cases i with
    | zero =>
      simp only [List.getElem?_cons_zero, Option.some.injEq] at hz hv
      subst hz; subst hv; exact h1
    | succ i => exact okK_at h2 (i := i) (by simpa using hz) (by simpa using hv)
theorem okK_nil : okK [] [] = true := okK_mk rfl fun i z v hz _ => by simp at hz
theorem num_range : ∀ {s k : List Int}, pos s → okK s k = true → 0 ≤ num s k ∧ num s k < prod s := by
  intro s
  induction s with
  | nil =>
    intro k _ h
    have := okK_len h
    cases k with
    | nil => simp [num, prod]
    | cons v k => simp at this
  | cons z s ih =>
    intro k hp h
    cases k with
    | nil => have := okK_len h; simp at this
    | cons v k =>
      obtain ⟨h1, h2⟩ := okK_cons.1 h
      have hp2 : pos s := fun y hy => hp y (by simp [hy])
      obtain ⟨h3, h4⟩ := ih hp2 h2
      have hP := prod_pos hp2
      simp only [num, prod]
      have e1 : 0 ≤ v * prod s := Int.mul_nonneg h1.1 (by omega)
      have e2 : (v + 1) * prod s ≤ z * prod s := Int.mul_le_mul_of_nonneg_right (by omega) (by omega)
      rw [Int.add_mul, Int.one_mul] at e2
      omega
theorem num_inj : ∀ {s k k' : List Int}, pos s → okK s k = true → okK s k' = true → num s k = num s k' → k = k' := by
  intro s
  induction s with
  | nil =>
    intro k k' _ h h' _
    have e1 := okK_len h
    have e2 := okK_len h'
    rw [List.eq_nil_of_length_eq_zero e1, List.eq_nil_of_length_eq_zero e2]
  | cons z s ih =>
    intro k k' hp h h' e
    have hp2 : pos s := fun y hy => hp y (by simp [hy])
    cases k with
    | nil => have := okK_len h; simp at this
    | cons v k =>
      cases k' with
      | nil => have := okK_len h'; simp at this
      | cons v' k' =>
        obtain ⟨h1, h2⟩ := okK_cons.1 h
        obtain ⟨h3, h4⟩ := okK_cons.1 h'
        have r1 := num_range hp2 h2
        have r2 := num_range hp2 h4
        simp only [num] at e
        have hv : v = v' := by
          rcases Int.lt_trichotomy v v' with hl | hl | hl
          · have e2 : (v + 1) * prod s ≤ v' * prod s := Int.mul_le_mul_of_nonneg_right (by omega) (by omega)
            rw [Int.add_mul, Int.one_mul] at e2
            omega
          · exact hl
          · have e2 : (v' + 1) * prod s ≤ v * prod s := Int.mul_le_mul_of_nonneg_right (by omega) (by omega)
            rw [Int.add_mul, Int.one_mul] at e2
            omega
        subst hv
        rw [ih hp2 h2 h4 (by omega)]
theorem prod_append (s1 s2 : List Int) : prod (s1 ++ s2) = prod s1 * prod s2 := by
  induction s1 with
  | nil => simp [prod]
  | cons z s ih => simp only [List.cons_append, prod, ih, Int.mul_assoc]
theorem num_append : ∀ {s1 k1 : List Int} (s2 k2 : List Int), k1.length = s1.length → num (s1 ++ s2) (k1 ++ k2) = num s1 k1 * prod s2 + num s2 k2 := by
  intro s1
  induction s1 with
  | nil => intro k1 s2 k2 h; obtain rfl := List.eq_nil_of_length_eq_zero h; simp [num]
  | cons z s ih =>
    intro k1 s2 k2 h
    cases k1 with
    | nil => simp at h
    | cons v k =>
      simp only [List.cons_append, num, prod_append]
      rw [ih s2 k2 (by simpa using h), Int.add_mul, Int.mul_assoc]
      omega
theorem num_snoc {s k : List Int} (z v : Int) (h : k.length = s.length) : num (s ++ [z]) (k ++ [v]) = num s k * z + v := by
  rw [num_append [z] [v] h]
  simp [num, prod]
theorem num_zeros (s : List Int) : num s (List.replicate s.length 0) = 0 := by
  induction s with
  | nil => rfl
  | cons z s ih => simp [List.replicate_succ, num, ih]
theorem okK_zeros {s : List Int} (h : pos s) : okK s (List.replicate s.length 0) = true := by
  refine okK_mk (by simp) fun i z v hz hv => ?_
  rw [List.getElem?_replicate] at hv
  split at hv
  · obtain rfl := Option.some.inj hv
    have := h z (List.mem_of_getElem? hz)
    omega
  · cases hv
theorem okK_append : ∀ {s1 k1 s2 k2 : List Int}, okK s1 k1 = true → okK s2 k2 = true → okK (s1 ++ s2) (k1 ++ k2) = true := by
  intro s1
  induction s1 with
  | nil => intro k1 s2 k2 h h2; obtain rfl := List.eq_nil_of_length_eq_zero (okK_len h); exact h2
  | cons z s ih =>
    intro k1 s2 k2 h h2
    cases k1 with
    | nil => have := okK_len h; simp at this
    | cons v k => obtain ⟨h3, h4⟩ := okK_cons.1 h; exact okK_cons.2 ⟨h3, ih h4 h2⟩
theorem okK_take {s k : List Int} (h : okK s k = true) (n : Nat) : okK (s.take n) (k.take n) = true := by
  have hl := okK_len h
  refine okK_mk (by simp [hl]) fun i z v hz hv => ?_
  rw [List.getElem?_take] at hz hv
  split at hz
  · rename_i hi
    rw [if_pos hi] at hv
    exact okK_at h hz hv
  · cases hz
theorem okK_drop {s k : List Int} (h : okK s k = true) (n : Nat) : okK (s.drop n) (k.drop n) = true := by
  have hl := okK_len h
  refine okK_mk (by simp [hl]) fun i z v hz hv => ?_
  rw [List.getElem?_drop] at hz hv
  exact okK_at h hz hv
theorem drop_at {s : List Int} {m : Nat} {z : Int} (h : s[m]? = some z) : s.drop m = z :: s.drop (m + 1) := by
  obtain ⟨hm, e⟩ := List.getElem?_eq_some_iff.1 h
  rw [List.drop_eq_getElem_cons hm, e]
theorem prod_le {s : List Int} (h : okS s = true) (n : Nat) : prod (s.take n) ≤ 5 ^ (s.take n).length := by
  have hz : ∀ z ∈ s.take n, 1 ≤ z ∧ z ≤ 5 := by
    intro z hz
    obtain ⟨i, hi⟩ := List.getElem?_of_mem (List.mem_of_mem_take hz)
    exact okS_at h hi
  generalize s.take n = t at hz
  induction t with
  | nil => simp [prod]
  | cons z t ih =>
    have h1 := hz z (by simp)
    have h2 := ih (fun y hy => hz y (by simp [hy]))
    have hp : 0 < prod t := prod_pos (fun y hy => by have := hz y (by simp [hy]); omega)
    simp only [prod, List.length_cons]
    have e1 : z * prod t ≤ 5 * prod t := Int.mul_le_mul_of_nonneg_right (by omega) (by omega)
    have e2 : (5 : Int) ^ (t.length + 1) = 5 ^ t.length * 5 := Int.pow_succ _ _
    omega
theorem prod_small {s : List Int} (h : okS s = true) (hl : s.length ≤ 5) (n : Nat) : prod (s.take n) ≤ 3125 := by
  have h1 := prod_le h n
  have h2 : (s.take n).length ≤ 5 := by rw [List.length_take]; omega
  generalize (s.take n).length = m at h1 h2
  have : m = 0 ∨ m = 1 ∨ m = 2 ∨ m = 3 ∨ m = 4 ∨ m = 5 := by omega
  rcases this with rfl | rfl | rfl | rfl | rfl | rfl
  all_goals (have e0 : (5 : Int) ^ 0 = 1 := rfl; have e1 : (5 : Int) ^ 1 = 5 := rfl; have e2 : (5 : Int) ^ 2 = 25 := rfl; have e3 : (5 : Int) ^ 3 = 125 := rfl; have e4 : (5 : Int) ^ 4 = 625 := rfl; have e5 : (5 : Int) ^ 5 = 3125 := rfl; omega)
theorem prod_small' {s : List Int} (h : okS s = true) (hl : s.length ≤ 5) : prod s ≤ 3125 := by
  have := prod_small h hl s.length
  rwa [List.take_length] at this
theorem set_mid {k r : List Int} {m : Nat} {v x : Int} (hv : k[m]? = some v) : (k.take (m + 1) ++ r).set m x = k.take m ++ (x :: r) := by
  have hm := (List.getElem?_eq_some_iff.1 hv).1
  rw [take_next hv, List.append_assoc, List.set_append_right _ _ (by rw [List.length_take]; omega), List.length_take, Nat.min_eq_left (by omega), Nat.sub_self]
  rfl
theorem idx_mid {k r : List Int} {m : Nat} {x : Int} (hm : m ≤ k.length) : idx (k.take m ++ (x :: r)) (m : Int) = some x := by
  rw [idx_nat, List.getElem?_append_right (by rw [List.length_take]; omega), List.length_take, Nat.min_eq_left hm, Nat.sub_self]
  rfl
/-- all kinds up to M with the same values up to t -/
def blockEnd (s k : List Int) (t : Nat) : Int := (num (s.take (t + 1)) (k.take (t + 1)) + 1) * prod (s.drop (t + 1))
theorem block_same {s k u : List Int} (hp : pos s) (hk : okK s k = true) (hu : okK s u = true) {t : Nat} (h1 : num s k ≤ num s u) (h2 : num s u < blockEnd s k t) : u.take (t + 1) = k.take (t + 1) := by
  unfold blockEnd at h2
  have a1 := okK_take hk (t + 1)
  have a2 := okK_take hu (t + 1)
  have b1 := num_range (pos_drop hp (t + 1)) (okK_drop hk (t + 1))
  have b2 := num_range (pos_drop hp (t + 1)) (okK_drop hu (t + 1))
  have e1 := num_append (s.drop (t + 1)) (k.drop (t + 1)) (okK_len a1)
  have e2 := num_append (s.drop (t + 1)) (u.drop (t + 1)) (okK_len a2)
  rw [List.take_append_drop, List.take_append_drop] at e1 e2
  generalize prod (s.drop (t + 1)) = P at *
  have hlt : num (s.take (t + 1)) (u.take (t + 1)) < num (s.take (t + 1)) (k.take (t + 1)) + 1 := by
    rcases Int.lt_or_le (num (s.take (t + 1)) (u.take (t + 1))) (num (s.take (t + 1)) (k.take (t + 1)) + 1) with h | h
    · exact h
    · have := Int.mul_le_mul_of_nonneg_right h (show 0 ≤ P by omega)
      omega
  have hge : num (s.take (t + 1)) (k.take (t + 1)) < num (s.take (t + 1)) (u.take (t + 1)) + 1 := by
    rcases Int.lt_or_le (num (s.take (t + 1)) (k.take (t + 1))) (num (s.take (t + 1)) (u.take (t + 1)) + 1) with h | h
    · exact h
    · have := Int.mul_le_mul_of_nonneg_right h (show 0 ≤ P by omega)
      rw [Int.add_mul, Int.one_mul] at this
      omega
  exact num_inj (pos_take hp (t + 1)) a2 a1 (by omega)
theorem block_after {s k : List Int} (hp : pos s) (hk : okK s k = true) (t : Nat) : num s k < blockEnd s k t := by
  unfold blockEnd
  have a1 := okK_take hk (t + 1)
  have b1 := num_range (pos_drop hp (t + 1)) (okK_drop hk (t + 1))
  have e1 := num_append (s.drop (t + 1)) (k.drop (t + 1)) (okK_len a1)
  rw [List.take_append_drop, List.take_append_drop] at e1
  rw [Int.add_mul, Int.one_mul]
  omega
theorem frb_take {s k u : List Int} (hs : okS s = true) (hl : s.length ≤ 5) {b : Ban} (hb : okB s b = true) {t : Nat} (ht : b.b = (t : Int)) (h : u.take (t + 1) = k.take (t + 1)) : frb u b = frb k b := by
  obtain ⟨i, j, h1, h2, h3, h4⟩ := okB_nat hs hl hb
  obtain rfl : j = t := by omega
  have e : ∀ q, q < j + 1 → u[q]? = k[q]? := by
    intro q hq
    have := congrArg (fun l => l[q]?) h
    simp only [List.getElem?_take, if_pos hq] at this
    exact this
  unfold frb
  rw [h1, h2, Int.toNat_natCast, Int.toNat_natCast, e i (by omega), e j (by omega)]
end Go.Proofs.Ytekacbjnpeglhaa.Q6Num

/- Chapter 6: kinds in their order, as numbers: the program's search and the reference's. (Q6Adv) No condition but those of each theorem. -/
namespace Go.Proofs.Ytekacbjnpeglhaa.Q6Adv
set_option linter.unusedVariables false
set_option linter.unusedSimpArgs false
open Go.RowKit
open Go.Proofs.Ytekacbjnpeglhaa.GoP Go.Proofs.Ytekacbjnpeglhaa.PlainStamp Go.Proofs.Ytekacbjnpeglhaa.QBase Go.Proofs.Ytekacbjnpeglhaa.Q6Num Go.Proofs.Ytekacbjnpeglhaa.Q6Kind Go.Proofs.Ytekacbjnpeglhaa.Q6Tab Go.Proofs.Ytekacbjnpeglhaa.Q6Ban Go.Proofs.Ytekacbjnpeglhaa.QLoop Go.Proofs.Ytekacbjnpeglhaa.QAll Go.Proofs.Ytekacbjnpeglhaa.PBan

theorem advance_eq {s k : List Int} (hs : okS s = true) (hl : s.length ≤ 5) (hk : okK s k = true) {t : Nat} (ht : t < s.length) (fuel : Nat) (hf : 7 ≤ fuel) :
    ∃ ok k', GiAdvance.P fuel s k (t : Int) = some (ok, k') ∧ (ok = true → okK s k' = true ∧ num s k' = blockEnd s k t) ∧ (ok = false → prod s = blockEnd s k t) := by
  have hlen := okK_len hk
  have hp := pos_of hs
  obtain ⟨⟨ok, k'⟩, h, hq⟩ : ∃ r : Bool × List Int, GiAdvance.P fuel s k (t : Int) = some r ∧ ((r.1 = true → okK s r.2 = true ∧ num s r.2 = blockEnd s k t) ∧ (r.1 = false → prod s = blockEnd s k t)) := by
    simp only [GiAdvance.P, letK]
    rw [wrap_in (by omega) (by omega), guardK_pos (by omega), show Int.toNat ((t : Int) + 1) = t + 1 by omega]
    refine lp_ex (n := t + 1) (fun j (st : List Int × Int) => st.2 = (t : Int) - (j : Int) ∧ st.1 = k.take (t + 1 - j) ++ List.replicate (k.length - (t + 1 - j)) 0 ∧
      (num (s.take (t + 1 - j)) (k.take (t + 1 - j)) + 1) * prod (s.drop (t + 1 - j)) = blockEnd s k t) ?_ ?_ fuel 0 _ (by omega) (by omega) ⟨by simp, by simp, by simp [blockEnd]⟩
    · rintro j ⟨l, i⟩ nx hj ⟨h1, h2, h3⟩ hn
      dsimp only at h1 h2 h3
      obtain ⟨m, hm⟩ : ∃ m, m = t - j := ⟨_, rfl⟩
      have hi : i = (m : Int) := by omega
      rw [show t + 1 - j = m + 1 by omega] at h2 h3
      subst hi
      obtain ⟨v, hv, _⟩ := at_lt (l := k) (k := m) (by omega)
      obtain ⟨z, hz, hzi⟩ := at_lt (l := s) (k := m) (by omega)
      have hvz := okK_at hk hz hv
      have hz5 := okS_at hs hz
      have e0 : idx l (m : Int) = some v := by
        rw [h2, take_next hv, List.append_assoc]
        exact idx_mid (by omega)
      have e1 : l.set m (v + 1) = k.take m ++ ((v + 1) :: List.replicate (k.length - (m + 1)) 0) := by rw [h2]; exact set_mid hv
      have hc : decide ((0 : Int) ≤ (m : Int)) = true := by simp
      have hN : num (s.take (m + 1)) (k.take (m + 1)) = num (s.take m) (k.take m) * z + v := by
        rw [take_next hz, take_next hv]; exact num_snoc z v (okK_len (okK_take hk m))
      simp only [GiAdvance.l0, unp2, letK, hc, iteK_if, if_true, e0, Option.bind_some, Int.toNat_natCast]
      rw [wrap_in (by omega) (by omega), e1, idx_mid (by omega)]
      simp only [hzi, Option.bind_some]
      by_cases hlt : v + 1 < z
      · rw [if_pos (by simpa using hlt)]
        have hzr : k.length - (m + 1) = (s.drop (m + 1)).length := by rw [List.length_drop]; omega
        have hS : s = s.take m ++ (z :: s.drop (m + 1)) := by rw [← drop_at hz, List.take_append_drop]
        refine ⟨_, rfl, fun _ => ⟨?_, ?_⟩, fun h => by simp at h⟩
        · rw [hS, hzr]
          have := okK_append (okK_take hk m) (okK_cons.2 ⟨⟨by omega, hlt⟩, okK_zeros (pos_drop hp (m + 1))⟩)
          rw [← hS]
          exact (by rw [← hS] at this; exact this)
        · dsimp only
          have e2 := num_append (s1 := s.take m) (k1 := k.take m) (z :: s.drop (m + 1)) ((v + 1) :: List.replicate (k.length - (m + 1)) 0) (okK_len (okK_take hk m))
          rw [← hS] at e2
          rw [e2]
          simp only [num, prod]
          rw [hzr, num_zeros, ← h3, hN, Int.add_mul, Int.add_mul, Int.add_mul, Int.mul_assoc]
          omega
      · rw [if_neg (by simpa using hlt)]
        have hvz2 : v + 1 = z := by omega
        simp only [appK]
        have e3 : (k.take m ++ ((v + 1) :: List.replicate (k.length - (m + 1)) 0)).set m 0 = k.take m ++ List.replicate (k.length - m) 0 := by
          rw [List.set_append_right _ _ (by rw [List.length_take]; omega), List.length_take, Nat.min_eq_left (by omega), Nat.sub_self, show k.length - m = k.length - (m + 1) + 1 by omega, List.replicate_succ]
          rfl
        rw [e3, wrap_in (by omega) (by omega)]
        refine hn _ ⟨by dsimp only; omega, by dsimp only; rw [show t + 1 - (j + 1) = m by omega], ?_⟩
        rw [show t + 1 - (j + 1) = m by omega, drop_at hz, ← h3, hN]
        simp only [prod]
        rw [show num (s.take m) (k.take m) * z + v + 1 = (num (s.take m) (k.take m) + 1) * z by rw [Int.add_mul]; omega, Int.mul_assoc]
    · rintro ⟨l, i⟩ nx ⟨h1, h2, h3⟩
      dsimp only at h1 h2 h3
      have hc : decide ((0 : Int) ≤ i) = false := by simp; omega
      simp only [GiAdvance.l0, unp2, letK, hc, iteK_if, Bool.false_eq_true, if_false, appK, GiAdvance.e0]
      refine ⟨_, rfl, fun h => by simp at h, fun _ => ?_⟩
      rw [← h3]
      simp [num]
  exact ⟨ok, k', h, hq⟩
end Go.Proofs.Ytekacbjnpeglhaa.Q6Adv

/- Chapter 6: kinds in their order, as numbers: the program's search and the reference's. (Q6First) No condition but those of each theorem. -/
namespace Go.Proofs.Ytekacbjnpeglhaa.Q6First
set_option linter.unusedVariables false
set_option linter.unusedSimpArgs false
open Go.RowKit
open Go.Proofs.Ytekacbjnpeglhaa.GoP Go.Proofs.Ytekacbjnpeglhaa.PlainStamp Go.Proofs.Ytekacbjnpeglhaa.QBase Go.Proofs.Ytekacbjnpeglhaa.Q6Adv Go.Proofs.Ytekacbjnpeglhaa.Q6Num Go.Proofs.Ytekacbjnpeglhaa.Q6Kind Go.Proofs.Ytekacbjnpeglhaa.Q6Tab Go.Proofs.Ytekacbjnpeglhaa.Q6Ban Go.Proofs.Ytekacbjnpeglhaa.QLoop Go.Proofs.Ytekacbjnpeglhaa.QAll Go.Proofs.Ytekacbjnpeglhaa.PBan

/-- r is the first compatible kind from number n on, or that there is none -/
def First (s : List Int) (l : List Ban) (n : Int) (r : List Int × Bool) : Prop :=
  (r.2 = true ∧ okK s r.1 = true ∧ free l r.1 = true ∧ n ≤ num s r.1 ∧ ∀ u, okK s u = true → free l u = true → n ≤ num s u → num s r.1 ≤ num s u) ∨
  (r = ([], false) ∧ ∀ u, okK s u = true → free l u = true → ¬ n ≤ num s u)
theorem first_uniq {s : List Int} {l : List Ban} {n : Int} {r r' : List Int × Bool} (hp : pos s) (h : First s l n r) (h' : First s l n r') : r = r' := by
  obtain ⟨k, b⟩ := r
  obtain ⟨k', b'⟩ := r'
  rcases h with ⟨h1, h2, h3, h4, h5⟩ | ⟨h1, h2⟩
  · dsimp only at h1 h2 h3 h4 h5
    rcases h' with ⟨g1, g2, g3, g4, g5⟩ | ⟨g1, g2⟩
    · dsimp only at g1 g2 g3 g4 g5
      have a1 := h5 k' g2 g3 g4
      have a2 := g5 k h2 h3 h4
      rw [num_inj hp h2 g2 (by omega), h1, g1]
    · exact absurd h4 (g2 k h2 h3)
  · rcases h' with ⟨g1, g2, g3, g4, g5⟩ | ⟨g1, g2⟩
    · dsimp only at g1 g2 g3 g4 g5
      exact absurd g4 (h2 k' g2 g3)
    · rw [h1, g1]
theorem firstFrom_eq {s : List Int} {l : List Ban} (ht : okT s l = true) {k : List Int} (hk : okK s k = true) (fuel : Nat) (hf : 3200 ≤ fuel) : ∃ r, GiFirstFrom.P fuel s l k = some r ∧ First s l (num s k) r := by
  obtain ⟨t1, t2, t3, t4, t5⟩ := okT_of ht
  have hp := pos_of t4
  have hsm := prod_small' t4 t2
  simp only [GiFirstFrom.P]
  refine lp_ex (n := 3125) (fun j kd => okK s kd = true ∧ num s k + (j : Int) ≤ num s kd ∧ ∀ u, okK s u = true → free l u = true → num s k ≤ num s u → num s kd ≤ num s u) ?_ ?_ fuel 0 k (by omega) (by omega) ⟨hk, by simp, fun u _ _ h => h⟩
  · rintro j kd nx hj ⟨h1, h2, h3⟩ hn
    simp only [GiFirstFrom.l0, letK]
    refine cnt_ex (n := l.length) (Q := fun r => First s l (num s k) r) (fun i _ => ∀ q b, q < i → l[q]? = some b → frb kd b = false) ?_ ?_ l.length 0 () (by omega) (fun q b hq _ => by omega)
    · rintro i ⟨⟩ nx1 hi hI hn1
      obtain ⟨b, hb, hbi⟩ := at_lt (l := l) (k := i) hi
      have hob := t5 b (List.mem_of_getElem? hb)
      obtain ⟨p, q, e1, e2, e3, e4⟩ := okB_nat t4 t2 hob
      simp only [GiFirstFrom.l1, hbi, Option.bind_some, unBan, forbids_eq t4 t2 hob (okK_len h1), letK, appK, iteK_if]
      cases hfb : frb kd b with
      | false =>
        rw [if_pos (by rfl)]
        refine hn1 () (fun q' b' hq hb' => ?_)
        by_cases he : q' = i
        · subst he; obtain rfl := Option.some.inj (hb.symm.trans hb'); exact hfb
        · exact hI q' b' (by omega) hb'
      | true =>
        rw [if_neg (by simp)]
        obtain ⟨ok, k', ha, g1, g2⟩ := advance_eq t4 t2 h1 (t := q) e4 fuel (by omega)
        rw [e2, ha]
        simp only [bind2_some]
        -- those with the same values are forbidden too
        have hno : ∀ u, okK s u = true → free l u = true → num s kd ≤ num s u → blockEnd s kd q ≤ num s u := by
          intro u hu hfu hle
          rcases Int.lt_or_le (num s u) (blockEnd s kd q) with h | h
          · exfalso
            have := frb_take t4 t2 hob e2 (block_same hp h1 hu hle h)
            have h4 := List.all_eq_true.1 hfu b (List.mem_of_getElem? hb)
            rw [this, hfb] at h4
            simp at h4
          · exact h
        cases ok with
        | true =>
          rw [if_neg (by simp)]
          obtain ⟨g3, g4⟩ := g1 rfl
          have hba := block_after hp h1 q
          exact hn k' ⟨g3, by omega, fun u hu hfu hle => by rw [g4]; exact hno u hu hfu (h3 u hu hfu hle)⟩
        | false =>
          rw [if_pos (by simp)]
          refine ⟨_, rfl, .inr ⟨rfl, fun u hu hfu hle => ?_⟩⟩
          have h4 := hno u hu hfu (h3 u hu hfu hle)
          have h5 := num_range hp hu
          rw [← g2 rfl] at h4
          omega
    · rintro ⟨⟩ hI
      refine ⟨_, rfl, .inl ⟨rfl, h1, ?_, by dsimp only; omega, h3⟩⟩
      refine List.all_eq_true.2 fun b hb => ?_
      obtain ⟨q, hq⟩ := List.getElem?_of_mem hb
      rw [hI q b (List.getElem?_eq_some_iff.1 hq).1 hq]; rfl
  · rintro kd nx ⟨h1, h2, h3⟩
    exfalso
    have := num_range hp h1
    have := num_range hp hk
    omega
theorem firstOf_eq {s : List Int} {l : List Ban} (ht : okT s l = true) (fuel : Nat) (hf : 3200 ≤ fuel) : ∃ r, GiFirstOf.P fuel s l = some r ∧ First s l 0 r := by
  obtain ⟨t1, t2, t3, t4, t5⟩ := okT_of ht
  simp only [GiFirstOf.P, letK]
  rw [guardK_pos (by omega)]
  obtain ⟨r, h1, h2⟩ := firstFrom_eq ht (okK_zeros (pos_of t4)) fuel hf
  rw [num_zeros] at h2
  refine ⟨r, ?_, h2⟩
  rw [cut2 h1]
  simp only [bind2_some]
theorem firstBehind_eq {s : List Int} {l : List Ban} (ht : okT s l = true) {k : List Int} (hk : okK s k = true) (fuel : Nat) (hf : 3200 ≤ fuel) : ∃ r, GiFirstBehind.P fuel s l k = some r ∧ First s l (num s k + 1) r := by
  obtain ⟨t1, t2, t3, t4, t5⟩ := okT_of ht
  have hlen := okK_len hk
  have hp := pos_of t4
  have hc : GxSlicesCloneIntInt.P k = some k := by
    simp only [GxSlicesCloneIntInt.P, GoK.nilK, iteK_if, letK]
    rw [if_neg (by simp), guardK_pos (by simp; omega)]
    simp
  simp only [GiFirstBehind.P, hc, Option.bind_some, letK, iteK_if]
  rw [wrap_in (by omega) (by omega), show ((k.length : Int) - 1) = ((s.length - 1 : Nat) : Int) by omega]
  obtain ⟨ok, k', ha, g1, g2⟩ := advance_eq t4 t2 hk (t := s.length - 1) (by omega) fuel (by omega)
  have hM : blockEnd s k (s.length - 1) = num s k + 1 := by
    unfold blockEnd
    rw [show s.length - 1 + 1 = s.length by omega, List.take_length, ← hlen, List.take_length, List.drop_of_length_le (by omega)]
    simp [prod]
  rw [ha]
  simp only [bind2_some]
  cases ok with
  | false =>
    rw [if_pos (by simp)]
    refine ⟨_, rfl, .inr ⟨rfl, fun u hu _ hle => ?_⟩⟩
    have := num_range hp hu
    have := g2 rfl
    omega
  | true =>
    rw [if_neg (by simp)]
    obtain ⟨g3, g4⟩ := g1 rfl
    obtain ⟨r, h1, h2⟩ := firstFrom_eq ht g3 fuel hf
    rw [g4, hM] at h2
    refine ⟨r, ?_, h2⟩
    rw [cut2 h1]
    simp only [bind2_some]
end Go.Proofs.Ytekacbjnpeglhaa.Q6First

/- loop.example/g01062/spec.l6From as a plain function, and the contract of the program's: where the plain one has an answer, the program has it. Conditions: slices read as lists. -/
namespace Go.Proofs.Ytekacbjnpeglhaa.GsL6From
set_option linter.unusedVariables false
set_option linter.unusedSimpArgs false
open Go.RowKit
open Go.Proofs.Ytekacbjnpeglhaa.Rowed Go.Proofs.Ytekacbjnpeglhaa.Turn Go.Proofs.Ytekacbjnpeglhaa.Aid Go.Proofs.Ytekacbjnpeglhaa.GoP Go.Proofs.Ytekacbjnpeglhaa.GoM

def l0 (t_sizes : (List Int)) (t_bans : (List Go.Proofs.Ytekacbjnpeglhaa.PBan.Ban)) (fuel : Nat) (s : Int) (nx0 bk0 : Int → Option ((List Int) × Bool)) : Option ((List Int) × Bool) :=
  letK s fun n_1l0 =>
  Option.bind (Go.Proofs.Ytekacbjnpeglhaa.GsL6All.P fuel t_sizes t_bans) fun (t_5 : Int) =>
  letK (decide (n_1l0 < t_5)) fun (t_6 : Bool) =>
  iteK t_6
  (Option.bind (Go.Proofs.Ytekacbjnpeglhaa.GsL6At.P fuel t_sizes t_bans n_1l0) fun (t_9 : (List Int)) =>
  Option.bind (Go.Proofs.Ytekacbjnpeglhaa.GsL6Free.P fuel t_sizes t_bans t_9) fun (t_13 : Bool) =>
  iteK t_13
  (some (t_9, true))
  (letK (IntKind.i64.wrap (n_1l0 + 1)) fun (t_18 : Int) =>
  appK nx0 (t_18)))
  (appK bk0 (n_1l0))

def e0  (s : Int) : Option ((List Int) × Bool) :=
  letK s fun n_1l0 =>
  some (([] : List Int), false)

def P (fuel : Nat) (t_sizes : (List Int)) (t_bans : (List Go.Proofs.Ytekacbjnpeglhaa.PBan.Ban)) (n_1 : Int) : Option ((List Int) × Bool) :=
  loopK (l0 t_sizes t_bans fuel) fuel (n_1) (e0 )

set_option maxRecDepth 100000 in
set_option maxHeartbeats 2000000 in
theorem C (fuel : Nat) (t_sizes : (List Int)) (t_bans : (List Go.Proofs.Ytekacbjnpeglhaa.PBan.Ban)) (n_1 : Int) (A0_0 : Option Addr) (c0_0 : Nat) (A0_1 : Option Addr) (c0_1 : Nat)  (w : World) (M0_0 : Hid (Cells w 1 A0_0 t_sizes.length (Go.Proofs.Ytekacbjnpeglhaa.HelpInt.iv t_sizes))) (N0_0 : Hid (t_sizes.length ≤ 9223372036854775807)) (M0_1 : Hid (Cells w 4 A0_1 t_bans.length (Go.Proofs.Ytekacbjnpeglhaa.PBan.flat t_bans))) (N0_1 : Hid (t_bans.length ≤ 9223372036854775807))  {r0 : (List Int)} {r1 : Bool} (H : Hid (P fuel t_sizes t_bans n_1 = some (r0, r1))) :
    Calls Try.prog 67 #[.agg #[.slice A0_0 t_sizes.length c0_0, .slice A0_1 t_bans.length c0_1], .int .i64 n_1] w (fun e w' => ∃ A_r0 c_r0, e = .returned (.tuple #[.slice A_r0 r0.length c_r0, .bool r1]) ∧ w'.ownsRow w.heap.size 3 1 (.slice A_r0 r0.length c_r0) r0.length (Go.Proofs.Ytekacbjnpeglhaa.HelpInt.iv r0) ∧ Below w.heap.size w w') := by
  have HB := Lib.hid (Below.refl w.heap.size w)
  unfold P at H
  have N0_0o := N0_0.out
  have N0_1o := N0_1.out
  go_enter Try.func67, Try.ntmps67
  obtain ⟨w_t_0, hw_t_0⟩ : ∃ x, w.alloc (.cells #[.slice A0_0 t_sizes.length c0_0, .slice A0_1 t_bans.length c0_1] 30) = x := ⟨_, rfl⟩
  have bw_t_0 : Below w.heap.size w w_t_0 := by rw [← hw_t_0]; exact (Below.refl _ _).alloc (Nat.le_refl _) _
  have HBw_t_0 := Lib.hid (Below.step HB.out bw_t_0)
  clear bw_t_0
  have kt_0_0 : w_t_0.cell? ⟨w.heap.size, 0, none⟩ = some (.slice A0_0 t_sizes.length c0_0) := by rw [← hw_t_0]; exact box_new _ _ _ 0 _ rfl
  have kt_0_1 : w_t_0.cell? ⟨w.heap.size, 1, none⟩ = some (.slice A0_1 t_bans.length c0_1) := by rw [← hw_t_0]; exact box_new _ _ _ 1 _ rfl
  go_wp2_with fail
  go_loopg [1] (fuel) (fun m_ v1_ wr => ∃ (n_1l0 : Int), v1_ = .int .i64 n_1l0 ∧ Hid (loopK (l0 t_sizes t_bans fuel) m_ (n_1l0) (e0 ) = some (r0, r1)) ∧ Hid (Below w.heap.size w wr) ∧ wr.cell? ⟨w.heap.size, 0, none⟩ = some (.slice A0_0 t_sizes.length c0_0) ∧ wr.cell? ⟨w.heap.size, 1, none⟩ = some (.slice A0_1 t_bans.length c0_1))
  case atStart => exact ⟨_, rfl, H, HBw_t_0, kt_0_0, kt_0_1⟩
  case round =>
    obtain ⟨n_1l0, rfl, H, HBwr0, kt_0_0, kt_0_1⟩ := hrel
    rename World => wr0
    cases gk with
    | zero => exact (loop_zero H).elim
    | succ m0 =>
      replace H := loop_succ H
      unfold l0 at H
      replace H := let_hid H
      obtain ⟨_, rfl, H⟩ := H
      replace H := bind_hid H
      obtain ⟨t_5, qt_5, H⟩ := H
      go_wp2_with fail
      go_at_call 94
      refine (Go.Proofs.Ytekacbjnpeglhaa.GsL6All.C fuel (t_sizes) (t_bans) A0_0 c0_0 A0_1 c0_1 _   (Lib.hid (Cells.below M0_0.out HBwr0.out)) N0_0 (Lib.hid (Cells.below M0_1.out HBwr0.out)) N0_1 qt_5).mono ?_
      rintro e_t_5 wt_5 ⟨rfl, bt_5⟩
      have HBwt_5 := Lib.hid (Below.step HBwr0.out bt_5)
      replace kt_0_0 := cell_below bt_5 kt_0_0
      replace kt_0_1 := cell_below bt_5 kt_0_1
      clear bt_5
      replace H := let_hid H
      obtain ⟨t_6, ht_6, H⟩ := H
      cases t_6 with
      | false =>
        replace H := ite_f H
        replace H := app_hid H
        unfold e0 at H
        replace H := let_hid H
        obtain ⟨_, rfl, H⟩ := H
        obtain ⟨w_t_20, hw_t_20⟩ : ∃ x, wt_5.alloc (.cells #[] 3) = x := ⟨_, rfl⟩
        have bw_t_20 : Below wt_5.heap.size wt_5 w_t_20 := by rw [← hw_t_20]; exact (Below.refl _ _).alloc (Nat.le_refl _) _
        have Ot_20 : Hid (w_t_20.ownsRow w.heap.size 3 1 (.slice (some ⟨wt_5.heap.size, 0, none⟩) 0 0) 0 []) := Lib.hid (by rw [← hw_t_20]; exact own_empty HBwt_5.out.size)
        have Dt_20_t_0 := Lib.hid (apart_box kt_0_0)
        have HBw_t_20 := Lib.hid (Below.step HBwt_5.out bw_t_20)
        have kt_0_0__184 := cell_below bw_t_20 kt_0_0
        have kt_0_1__185 := cell_below bw_t_20 kt_0_1
        clear bw_t_20
        cases ret_hid H
        go_wp2_with fail
        go_ret2
        exact ⟨(some ⟨wt_5.heap.size, 0, none⟩), 0, rfl, Ot_20.out, HBw_t_20.out⟩
      | true =>
        replace H := ite_t H
        replace H := bind_hid H
        obtain ⟨t_9, qt_9, H⟩ := H
        go_wp2_with fail
        go_at_call 95
        refine (Go.Proofs.Ytekacbjnpeglhaa.GsL6At.C fuel (t_sizes) (t_bans) (n_1l0) A0_0 c0_0 A0_1 c0_1 _   (Lib.hid (Cells.below M0_0.out HBwt_5.out)) N0_0 (Lib.hid (Cells.below M0_1.out HBwt_5.out)) N0_1 qt_9).mono ?_
        rintro e_t_9 wt_9 ⟨At_9, ct_9, rfl, ot_9, bt_9⟩
        have Dt_9_t_0 := Lib.hid (apart_callbox ot_9 kt_0_0)
        have Ot_9 := Lib.hid (own_lower ot_9 HBwt_5.out.size)
        clear ot_9
        have HBwt_9 := Lib.hid (Below.step HBwt_5.out bt_9)
        replace kt_0_0 := cell_below bt_9 kt_0_0
        replace kt_0_1 := cell_below bt_9 kt_0_1
        clear bt_9
        replace H := bind_hid H
        obtain ⟨t_13, qt_13, H⟩ := H
        go_wp2_with fail
        go_at_call 60
        refine (Go.Proofs.Ytekacbjnpeglhaa.GsL6Free.C fuel (t_sizes) (t_bans) (t_9) A0_0 c0_0 A0_1 c0_1 At_9 ct_9 _   (Lib.hid (Cells.below M0_0.out HBwt_9.out)) N0_0 (Lib.hid (Cells.below M0_1.out HBwt_9.out)) N0_1 (Lib.hid (own_cells Ot_9.out)) (Lib.hid (own_max Ot_9.out)) qt_13).mono ?_
        rintro e_t_13 wt_13 ⟨rfl, bt_13⟩
        have HBwt_13 := Lib.hid (Below.step HBwt_9.out bt_13)
        replace kt_0_0 := cell_below bt_13 kt_0_0
        replace kt_0_1 := cell_below bt_13 kt_0_1
        replace Ot_9 := Lib.hid (own_below Ot_9.out bt_13)
        clear bt_13
        cases t_13 with
        | false =>
          replace H := ite_f H
          replace H := let_hid H
          obtain ⟨t_18, ht_18, H⟩ := H
          replace H := app_hid H
          go_wp2_with fail
          go_roundg m0
          case measure => omega
          case rel => exact ⟨_, rfl, H, HBwt_13, kt_0_0, kt_0_1⟩
        | true =>
          replace H := ite_t H
          cases ret_hid H
          go_wp2_with fail
          go_ret2
          exact ⟨At_9, ct_9, rfl, Ot_9.out, HBwt_13.out⟩
end Go.Proofs.Ytekacbjnpeglhaa.GsL6From

/- loop.example/g01062/spec.l6Number as a plain function, and the contract of the program's: where the plain one has an answer, the program has it. Conditions: slices read as lists. -/
namespace Go.Proofs.Ytekacbjnpeglhaa.GsL6Number
set_option linter.unusedVariables false
set_option linter.unusedSimpArgs false
open Go.RowKit
open Go.Proofs.Ytekacbjnpeglhaa.Rowed Go.Proofs.Ytekacbjnpeglhaa.Turn Go.Proofs.Ytekacbjnpeglhaa.Aid Go.Proofs.Ytekacbjnpeglhaa.GoP Go.Proofs.Ytekacbjnpeglhaa.GoM

def l0 (t_sizes : (List Int)) (kind : (List Int)) (k0 : Nat) (s : Int) (nx0 bk0 : Int → Option (Int)) : Option (Int) :=
  letK s fun n_5l0 =>
  Option.bind (idx t_sizes (k0 : Int)) fun (yt_12 : Int) =>
  letK (IntKind.i64.wrap (n_5l0 * yt_12)) fun (t_14 : Int) =>
  Option.bind (idx kind (k0 : Int)) fun (yt_17 : Int) =>
  letK (IntKind.i64.wrap (t_14 + yt_17)) fun (t_19 : Int) =>
  appK nx0 (t_19)

def e0  (s : Int) : Option (Int) :=
  letK s fun n_5l0 =>
  some n_5l0

def P (t_sizes : (List Int)) (t_bans : (List Go.Proofs.Ytekacbjnpeglhaa.PBan.Ban)) (kind : (List Int)) : Option (Int) :=
  cntK (l0 t_sizes kind) (kind.length) 0 (0) (e0 )

set_option maxRecDepth 100000 in
set_option maxHeartbeats 2000000 in
theorem C (t_sizes : (List Int)) (t_bans : (List Go.Proofs.Ytekacbjnpeglhaa.PBan.Ban)) (kind : (List Int)) (A0_0 : Option Addr) (c0_0 : Nat) (A0_1 : Option Addr) (c0_1 : Nat) (A1 : Option Addr) (c1 : Nat)  (w : World) (M0_0 : Hid (Cells w 1 A0_0 t_sizes.length (Go.Proofs.Ytekacbjnpeglhaa.HelpInt.iv t_sizes))) (N0_0 : Hid (t_sizes.length ≤ 9223372036854775807)) (M0_1 : Hid (Cells w 4 A0_1 t_bans.length (Go.Proofs.Ytekacbjnpeglhaa.PBan.flat t_bans))) (N0_1 : Hid (t_bans.length ≤ 9223372036854775807)) (M1 : Hid (Cells w 1 A1 kind.length (Go.Proofs.Ytekacbjnpeglhaa.HelpInt.iv kind))) (N1 : Hid (kind.length ≤ 9223372036854775807))  {r : Int} (H : Hid (P t_sizes t_bans kind = some r)) :
    Calls Try.prog 70 #[.agg #[.slice A0_0 t_sizes.length c0_0, .slice A0_1 t_bans.length c0_1], .slice A1 kind.length c1] w (Gives (.int .i64 r) w) := by
  have HB := Lib.hid (Below.refl w.heap.size w)
  unfold P at H
  have N0_0o := N0_0.out
  have N0_1o := N0_1.out
  have N1o := N1.out
  go_enter Try.func70, Try.ntmps70
  obtain ⟨w_t_0, hw_t_0⟩ : ∃ x, w.alloc (.cells #[.slice A0_0 t_sizes.length c0_0, .slice A0_1 t_bans.length c0_1] 30) = x := ⟨_, rfl⟩
  have bw_t_0 : Below w.heap.size w w_t_0 := by rw [← hw_t_0]; exact (Below.refl _ _).alloc (Nat.le_refl _) _
  have HBw_t_0 := Lib.hid (Below.step HB.out bw_t_0)
  clear bw_t_0
  have kt_0_0 : w_t_0.cell? ⟨w.heap.size, 0, none⟩ = some (.slice A0_0 t_sizes.length c0_0) := by rw [← hw_t_0]; exact box_new _ _ _ 0 _ rfl
  have kt_0_1 : w_t_0.cell? ⟨w.heap.size, 1, none⟩ = some (.slice A0_1 t_bans.length c0_1) := by rw [← hw_t_0]; exact box_new _ _ _ 1 _ rfl
  go_wp2_with fail
  go_loopg [6, 5] (kind.length) (fun m_ v6_ v5_ wr => ∃ (k0 : Nat) (n_5l0 : Int), k0 + m_ = kind.length ∧ v6_ = .int .i64 (k0 : Int) ∧ v5_ = .int .i64 n_5l0 ∧ Hid (cntK (l0 t_sizes kind) m_ k0 (n_5l0) (e0 ) = some r) ∧ Hid (Below w.heap.size w wr) ∧ wr.cell? ⟨w.heap.size, 0, none⟩ = some (.slice A0_0 t_sizes.length c0_0) ∧ wr.cell? ⟨w.heap.size, 1, none⟩ = some (.slice A0_1 t_bans.length c0_1))
  case atStart => exact ⟨0, _, by omega, rfl, rfl, H, HBw_t_0, kt_0_0, kt_0_1⟩
  case round =>
    obtain ⟨k0, n_5l0, hkm0, rfl, rfl, H, HBwr0, kt_0_0, kt_0_1⟩ := hrel
    rename World => wr0
    cases gk with
    | zero =>
      obtain rfl : k0 = kind.length := by omega
      have hc0 : decide (((kind.length : Nat) : Int) < ((kind.length : Nat) : Int)) = false := by simp
      replace H := cnt_zero H
      unfold e0 at H
      replace H := let_hid H
      obtain ⟨_, rfl, H⟩ := H
      obtain rfl := ret_hid H
      go_wp2_with fail
      go_ret
      exact ⟨rfl, HBwr0.out⟩
    | succ m0 =>
      have hlt0 : k0 < kind.length := by omega
      have hc0 : decide ((k0 : Int) < ((kind.length : Nat) : Int)) = true := by simp; omega
      replace H := cnt_succ H
      unfold l0 at H
      replace H := let_hid H
      obtain ⟨_, rfl, H⟩ := H
      go_wp2_with fail
      have Hkt_0_0 := Lib.hid kt_0_0
      replace kt_0_0 := cell_regrown kt_0_0
      have Hkt_0_1 := Lib.hid kt_0_1
      replace kt_0_1 := cell_regrown kt_0_1
      replace H := idx_hid H
      obtain ⟨nt_12, yt_12, et_12, lt_12, gt_12, H⟩ := H
      obtain rfl : k0 = nt_12 := by omega
      clear et_12
      obtain ⟨ab_t_12, ao_t_12, zt_12, At_12, z_t_12, ct_12_0⟩ := Go.Proofs.Ytekacbjnpeglhaa.HelpInt.Ints.at_ M0_0.out lt_12
      obtain rfl := Option.some.inj (gt_12.out.symm.trans z_t_12)
      subst At_12
      have ltt_12 := cell_lt ct_12_0
      replace ct_12_0 := cell_below HBwr0.out ct_12_0
      clear z_t_12
      have b0t_12 : (0 : Int) ≤ (k0 : Int) := by omega
      have b1t_12 : (k0 : Int) < ((t_sizes.length : Nat) : Int) := by omega
      have b2t_12 : ((k0 : Int)).toNat = k0 := by omega
      have Hct_12_0 := Lib.hid ct_12_0
      replace ct_12_0 := cell_regrown ct_12_0
      replace H := let_hid H
      obtain ⟨t_14, ht_14, H⟩ := H
      replace H := idx_hid H
      obtain ⟨nt_17, yt_17, et_17, lt_17, gt_17, H⟩ := H
      obtain rfl : k0 = nt_17 := by omega
      clear et_17
      obtain ⟨ab_t_17, ao_t_17, zt_17, At_17, z_t_17, ct_17_0⟩ := Go.Proofs.Ytekacbjnpeglhaa.HelpInt.Ints.at_ M1.out lt_17
      obtain rfl := Option.some.inj (gt_17.out.symm.trans z_t_17)
      subst At_17
      have ltt_17 := cell_lt ct_17_0
      replace ct_17_0 := cell_below HBwr0.out ct_17_0
      clear z_t_17
      have b0t_17 : (0 : Int) ≤ (k0 : Int) := by omega
      have b1t_17 : (k0 : Int) < ((kind.length : Nat) : Int) := by omega
      have b2t_17 : ((k0 : Int)).toNat = k0 := by omega
      have Hct_17_0 := Lib.hid ct_17_0
      replace ct_17_0 := cell_regrown ct_17_0
      replace H := let_hid H
      obtain ⟨t_19, ht_19, H⟩ := H
      refine wp_region_quiet_below (by kernel_rfl) (by kernel_rfl) ?_
      repeat (go_big_quiet_step (fail))
      refine wpQuiet_nil ?_
      intro Y5 hY5
      replace hY5 := below_class hY5
      replace kt_0_0 := Hkt_0_0.out
      clear Hkt_0_0
      replace kt_0_1 := Hkt_0_1.out
      clear Hkt_0_1
      replace ct_12_0 := Hct_12_0.out
      clear Hct_12_0
      replace ct_17_0 := Hct_17_0.out
      clear Hct_17_0
      have HBY5 := Lib.hid (Below.step HBwr0.out hY5)
      replace kt_0_0 := cell_below hY5 kt_0_0
      replace kt_0_1 := cell_below hY5 kt_0_1
      replace ct_12_0 := cell_below hY5 ct_12_0
      replace ct_17_0 := cell_below hY5 ct_17_0
      clear hY5
      replace H := app_hid H
      go_wp2_with fail
      go_roundg m0
      case measure => omega
      case rel => exact ⟨k0 + 1, _, by omega, by go_num, rfl, H, HBY5, kt_0_0, kt_0_1⟩
end Go.Proofs.Ytekacbjnpeglhaa.GsL6Number

/- Chapter 6: kinds in their order, as numbers: the program's search and the reference's. (Q6Spec) No condition but those of each theorem. -/
namespace Go.Proofs.Ytekacbjnpeglhaa.Q6Spec
set_option linter.unusedVariables false
set_option linter.unusedSimpArgs false
open Go.RowKit
open Go.Proofs.Ytekacbjnpeglhaa.GoP Go.Proofs.Ytekacbjnpeglhaa.PlainStamp Go.Proofs.Ytekacbjnpeglhaa.QBase Go.Proofs.Ytekacbjnpeglhaa.Q6First Go.Proofs.Ytekacbjnpeglhaa.Q6Num Go.Proofs.Ytekacbjnpeglhaa.Q6Kind Go.Proofs.Ytekacbjnpeglhaa.Q6Tab Go.Proofs.Ytekacbjnpeglhaa.Q6Ban Go.Proofs.Ytekacbjnpeglhaa.QLoop Go.Proofs.Ytekacbjnpeglhaa.QAll Go.Proofs.Ytekacbjnpeglhaa.PBan

theorem l6All_eq {s : List Int} (hs : okS s = true) (hl : s.length ≤ 5) (l : List Ban) (fuel : Nat) (hf : 7 ≤ fuel) : GsL6All.P fuel s l = some (prod s) := by
  simp only [GsL6All.P]
  obtain ⟨r, h, hr⟩ := lp_ex (f := GsL6All.l0 s) (fin := GsL6All.e0) (Q := fun r => r = prod s) (n := s.length) (fun j (st : Int × Int) => st.2 = (j : Int) ∧ st.1 = prod (s.take j)) (by
    rintro j ⟨a, i⟩ nx hj ⟨h1, h2⟩ hn
    dsimp only at h1 h2
    subst h1
    obtain ⟨z, hz, hzi⟩ := at_lt (l := s) (k := j) hj
    have hc : decide ((j : Int) < (s.length : Int)) = true := by simp; omega
    have e : prod (s.take (j + 1)) = prod (s.take j) * z := by rw [take_next hz, prod_append]; simp [prod]
    have b1 := prod_small hs hl (j + 1)
    have b2 := prod_pos (pos_take (pos_of hs) (j + 1))
    simp only [GsL6All.l0, unp2, letK, hc, iteK_if, if_true, hzi, Option.bind_some, appK]
    rw [h2, ← e, wrap_in (by omega) (by omega), next_i (by omega)]
    exact hn _ ⟨rfl, rfl⟩) (by
    rintro ⟨a, i⟩ nx ⟨h1, h2⟩
    dsimp only at h1 h2
    subst h1
    have hc : decide ((s.length : Int) < (s.length : Int)) = false := by simp
    simp only [GsL6All.l0, unp2, letK, hc, iteK_if, Bool.false_eq_true, if_false, appK, GsL6All.e0]
    exact ⟨_, rfl, by rw [h2, List.take_length]⟩) fuel 0 (1, 0) (by omega) (by omega) ⟨rfl, by simp [prod]⟩
  rw [h, hr]
theorem l6At_eq {s : List Int} (hs : okS s = true) (hl : s.length ≤ 5) (l : List Ban) {n : Int} (h0 : 0 ≤ n) (hn : n < prod s) (fuel : Nat) (hf : 7 ≤ fuel) : ∃ k, GsL6At.P fuel s l n = some k ∧ okK s k = true ∧ num s k = n := by
  have hp := pos_of hs
  have hsm := prod_small' hs hl
  simp only [GsL6At.P, letK]
  rw [guardK_pos (by omega), List.length_replicate, wrap_in (by omega) (by omega)]
  refine lp_ex (n := s.length) (fun j (st : Int × List Int × Int) => st.2.2 = (s.length : Int) - 1 - (j : Int) ∧ 0 ≤ st.1 ∧ ∃ t, st.2.1 = List.replicate (s.length - j) 0 ++ t ∧ okK (s.drop (s.length - j)) t = true ∧
    n = st.1 * prod (s.drop (s.length - j)) + num (s.drop (s.length - j)) t) ?_ ?_ fuel 0 _ (by omega) (by omega) ⟨by simp, h0, [], by simp, by simp [okK_nil], by simp [prod, num]⟩
  · rintro j ⟨a, o, i⟩ nx hj ⟨h1, h2, t, h3, h4, h5⟩ hn
    dsimp only at h1 h2 h3 h5
    obtain ⟨m, hm⟩ : ∃ m, m = s.length - 1 - j := ⟨_, rfl⟩
    have hi : i = (m : Int) := by omega
    subst hi
    rw [show s.length - j = m + 1 by omega] at h3 h4 h5
    obtain ⟨z, hz, hzi⟩ := at_lt (l := s) (k := m) (by omega)
    have hz5 := okS_at hs hz
    have hc : decide ((0 : Int) ≤ (m : Int)) = true := by simp
    have hP := prod_pos (pos_drop hp (m + 1))
    have hr := num_range (pos_drop hp (m + 1)) h4
    have ha : a ≤ n := by
      have := Int.mul_le_mul_of_nonneg_left (show 1 ≤ prod (s.drop (m + 1)) by omega) h2
      rw [Int.mul_one] at this
      omega
    have hlo : m < o.length := by rw [h3, List.length_append, List.length_replicate]; omega
    obtain ⟨x, hx, hxi⟩ := at_lt (l := o) (k := m) hlo
    have hd1 : 0 ≤ a / z := Int.ediv_nonneg h2 (by omega)
    have hd2 : a / z ≤ a := Int.ediv_le_self _ h2
    have hm1 : 0 ≤ a % z := Int.emod_nonneg _ (by omega)
    have hm2 : a % z < z := Int.emod_lt_of_pos _ (by omega)
    have hdm : z * (a / z) + a % z = a := Int.mul_ediv_add_emod a z
    simp only [GsL6At.l0, unp3, letK, hc, iteK_if, if_true, hzi, hxi, Option.bind_some, Int.toNat_natCast, appK]
    rw [guardK_pos (by omega), guardK_pos (by omega), Int.tmod_eq_emod_of_nonneg h2, Int.tdiv_eq_ediv_of_nonneg h2, wrap_in (x := a / z) (by omega) (by omega), wrap_in (by omega) (by omega)]
    have e : o.set m (a % z) = List.replicate m 0 ++ ((a % z) :: t) := by
      rw [h3, List.replicate_succ', List.append_assoc, List.set_append_right _ _ (by simp), List.length_replicate, Nat.sub_self]
      rfl
    rw [e]
    refine hn _ ⟨by dsimp only; omega, hd1, (a % z) :: t, ?_, ?_, ?_⟩
    · dsimp only; rw [show s.length - (j + 1) = m by omega]
    · rw [show s.length - (j + 1) = m by omega, drop_at hz]
      exact okK_cons.2 ⟨⟨hm1, hm2⟩, h4⟩
    · rw [show s.length - (j + 1) = m by omega, drop_at hz]
      dsimp only
      simp only [prod, num]
      rw [h5]
      have e2 : a * prod (s.drop (m + 1)) = (a / z) * (z * prod (s.drop (m + 1))) + (a % z) * prod (s.drop (m + 1)) := by
        rw [← Int.mul_assoc, ← Int.add_mul, Int.mul_comm (a / z) z, hdm]
      rw [e2]
      omega
  · rintro ⟨a, o, i⟩ nx ⟨h1, h2, t, h3, h4, h5⟩
    dsimp only at h1 h2 h3 h5
    have hc : decide ((0 : Int) ≤ i) = false := by simp; omega
    simp only [GsL6At.l0, unp3, letK, hc, iteK_if, Bool.false_eq_true, if_false, appK, GsL6At.e0]
    rw [Nat.sub_self, List.drop_zero] at h4 h5
    rw [Nat.sub_self, List.replicate_zero, List.nil_append] at h3
    subst h3
    refine ⟨_, rfl, h4, ?_⟩
    have hr := num_range hp h4
    rcases Int.lt_or_le 0 a with h | h
    · have := Int.mul_le_mul_of_nonneg_right (show 1 ≤ a by omega) (show 0 ≤ prod s by omega)
      omega
    · have : a = 0 := by omega
      rw [this] at h5
      omega
theorem l6Number_eq {s k : List Int} (hs : okS s = true) (hl : s.length ≤ 5) (l : List Ban) (hk : okK s k = true) : GsL6Number.P s l k = some (num s k) := by
  have hlen := okK_len hk
  simp only [GsL6Number.P]
  refine cnt_is _ (fun j st => st = num (s.take j) (k.take j)) ?_ ?_ 0 rfl
  · intro j st nx hj h hn
    obtain ⟨z, hz, hzi⟩ := at_lt (l := s) (k := j) (by omega)
    obtain ⟨v, hv, hvi⟩ := at_lt (l := k) (k := j) hj
    have e : num (s.take (j + 1)) (k.take (j + 1)) = num (s.take j) (k.take j) * z + v := by
      rw [take_next hz, take_next hv]; exact num_snoc z v (okK_len (okK_take hk j))
    have r1 := num_range (pos_take (pos_of hs) (j + 1)) (okK_take hk (j + 1))
    have r2 := num_range (pos_take (pos_of hs) j) (okK_take hk j)
    have b1 := prod_small hs hl (j + 1)
    have hvz := okK_at hk hz hv
    have hnn : 0 ≤ num (s.take j) (k.take j) * z := Int.mul_nonneg r2.1 (by omega)
    simp only [GsL6Number.l0, letK, hzi, hvi, Option.bind_some, appK]
    rw [h, wrap_in (x := num (s.take j) (k.take j) * z) (by omega) (by omega), wrap_in (by omega) (by omega), ← e]
    exact hn _ rfl
  · intro st h
    simp only [GsL6Number.e0, letK]
    rw [h, List.take_length, hlen, List.take_length]
theorem l6From_eq {s : List Int} {l : List Ban} (ht : okT s l = true) {n : Int} (h0 : 0 ≤ n) (hn : n ≤ prod s) (fuel : Nat) (hf : 3200 ≤ fuel) : ∃ r, GsL6From.P fuel s l n = some r ∧ First s l n r := by
  obtain ⟨t1, t2, t3, t4, t5⟩ := okT_of ht
  have hp := pos_of t4
  have hsm := prod_small' t4 t2
  simp only [GsL6From.P]
  refine lp_ex (n := (prod s - n).toNat) (fun j st => st = n + (j : Int) ∧ ∀ u, okK s u = true → free l u = true → n ≤ num s u → st ≤ num s u) ?_ ?_ fuel 0 n (by omega) (by omega) ⟨by simp, fun u _ _ h => h⟩
  · rintro j st nx hj ⟨h1, h2⟩ hnx
    have hlt : st < prod s := by omega
    have hc : decide (st < prod s) = true := by simpa using hlt
    obtain ⟨k, hk, hok, hnum⟩ := l6At_eq t4 t2 l (n := st) (by omega) hlt fuel (by omega)
    simp only [GsL6From.l0, letK, l6All_eq t4 t2 l fuel (by omega), Option.bind_some, hc, iteK_if, if_true, hk, l6Free_eq ht (okK_len hok) fuel (by omega), appK]
    cases hfr : free l k with
    | true =>
      rw [if_pos rfl]
      exact ⟨_, rfl, .inl ⟨rfl, hok, hfr, by dsimp only; omega, fun u hu hfu hle => by dsimp only; rw [hnum]; exact h2 u hu hfu hle⟩⟩
    | false =>
      rw [if_neg (by simp), wrap_in (by omega) (by omega)]
      refine hnx _ ⟨by omega, fun u hu hfu hle => ?_⟩
      have h3 := h2 u hu hfu hle
      by_cases he : num s u = st
      · exfalso
        have := num_inj hp hu hok (by omega)
        rw [this, hfr] at hfu
        simp at hfu
      · omega
  · rintro st nx ⟨h1, h2⟩
    have hc : decide (st < prod s) = false := by simp; omega
    simp only [GsL6From.l0, letK, l6All_eq t4 t2 l fuel (by omega), Option.bind_some, hc, iteK_if, Bool.false_eq_true, if_false, appK, GsL6From.e0]
    refine ⟨_, rfl, .inr ⟨rfl, fun u hu hfu hle => ?_⟩⟩
    have h3 := h2 u hu hfu hle
    have h4 := num_range hp hu
    omega
end Go.Proofs.Ytekacbjnpeglhaa.Q6Spec

/- Chapter 6: kinds that are counted: the program's list of them and the reference's sums. (Q6List) No condition but those of each theorem. -/
namespace Go.Proofs.Ytekacbjnpeglhaa.Q6List
set_option linter.unusedVariables false
set_option linter.unusedSimpArgs false
open Go.RowKit
open Go.Proofs.Ytekacbjnpeglhaa.GoP Go.Proofs.Ytekacbjnpeglhaa.PlainStamp Go.Proofs.Ytekacbjnpeglhaa.QBase Go.Proofs.Ytekacbjnpeglhaa.Q6Spec Go.Proofs.Ytekacbjnpeglhaa.Q6First Go.Proofs.Ytekacbjnpeglhaa.Q6Num Go.Proofs.Ytekacbjnpeglhaa.Q6Kind Go.Proofs.Ytekacbjnpeglhaa.Q6Tab Go.Proofs.Ytekacbjnpeglhaa.Q6Ban Go.Proofs.Ytekacbjnpeglhaa.QLoop Go.Proofs.Ytekacbjnpeglhaa.QAll Go.Proofs.Ytekacbjnpeglhaa.PBan

/-- the kind with number n -/
def kA (s : List Int) (n : Nat) : List Int := (GsL6At.P 8 s [] (n : Int)).getD []
theorem kA_spec {s : List Int} (hs : okS s = true) (hl : s.length ≤ 5) {n : Nat} (h : (n : Int) < prod s) : okK s (kA s n) = true ∧ num s (kA s n) = (n : Int) := by
  obtain ⟨k, h1, h2, h3⟩ := l6At_eq hs hl [] (n := (n : Int)) (by omega) h 8 (by omega)
  unfold kA
  rw [h1]
  exact ⟨h2, h3⟩
theorem l6At_is {s : List Int} (hs : okS s = true) (hl : s.length ≤ 5) (l : List Ban) {n : Nat} (h : (n : Int) < prod s) (fuel : Nat) (hf : 7 ≤ fuel) : GsL6At.P fuel s l (n : Int) = some (kA s n) := by
  obtain ⟨k, h1, h2, h3⟩ := l6At_eq hs hl l (n := (n : Int)) (by omega) h fuel hf
  have h4 := kA_spec hs hl h
  rw [h1, num_inj (pos_of hs) h2 h4.1 (by omega)]
theorem kA_num {s k : List Int} (hs : okS s = true) (hl : s.length ≤ 5) (hk : okK s k = true) : kA s (num s k).toNat = k := by
  have hr := num_range (pos_of hs) hk
  have e : (((num s k).toNat : Nat) : Int) = num s k := by omega
  have h4 := kA_spec hs hl (n := (num s k).toNat) (by omega)
  exact num_inj (pos_of hs) h4.1 hk (by omega)
def upto (s : List Int) (l : List Ban) (m : Nat) : List (List Int) := ((List.range m).filter fun n => free l (kA s n)).map (kA s)
theorem upto_succ (s : List Int) (l : List Ban) (m : Nat) : upto s l (m + 1) = if free l (kA s m) = true then upto s l m ++ [kA s m] else upto s l m := by
  unfold upto
  rw [List.range_succ, List.filter_append, List.map_append]
  cases h : free l (kA s m) <;> simp [List.filter, h]
theorem upto_len (s : List Int) (l : List Ban) (m : Nat) : (upto s l m).length ≤ m := by
  unfold upto
  rw [List.length_map]
  have := List.length_filter_le (fun n => free l (kA s n)) (List.range m)
  rw [List.length_range] at this
  exact this
theorem upto_skip (s : List Int) (l : List Ban) (m d : Nat) (h : ∀ n, m ≤ n → n < m + d → free l (kA s n) = false) : upto s l (m + d) = upto s l m := by
  induction d with
  | zero => rfl
  | succ d ih =>
    rw [show m + (d + 1) = (m + d) + 1 by omega, upto_succ, h (m + d) (by omega) (by omega), ih (fun n h1 h2 => h n h1 (by omega))]
    rfl
theorem first_upto {s : List Int} {l : List Ban} (hs : okS s = true) (hl : s.length ≤ 5) {m : Nat} (hm : (m : Int) ≤ prod s) {r : List Int × Bool} (h : First s l (m : Int) r) :
    (r.2 = true → okK s r.1 = true ∧ free l r.1 = true ∧ (m : Int) ≤ num s r.1 ∧ upto s l (num s r.1).toNat = upto s l m) ∧ (r.2 = false → upto s l (prod s).toNat = upto s l m) := by
  rcases h with ⟨h1, h2, h3, h4, h5⟩ | ⟨h1, h2⟩
  · refine ⟨fun _ => ⟨h2, h3, h4, ?_⟩, fun h => by rw [h1] at h; simp at h⟩
    have hr := num_range (pos_of hs) h2
    obtain ⟨d, hd⟩ : ∃ d, (num s r.1).toNat = m + d := ⟨(num s r.1).toNat - m, by omega⟩
    rw [hd]
    refine upto_skip s l m d (fun n g1 g2 => ?_)
    have g3 := kA_spec hs hl (n := n) (by omega)
    cases hf : free l (kA s n) with
    | false => rfl
    | true => have := h5 _ g3.1 hf (by omega); omega
  · refine ⟨fun h => by rw [h1] at h; simp at h, fun _ => ?_⟩
    obtain ⟨d, hd⟩ : ∃ d, (prod s).toNat = m + d := ⟨(prod s).toNat - m, by omega⟩
    rw [hd]
    refine upto_skip s l m d (fun n g1 g2 => ?_)
    have g3 := kA_spec hs hl (n := n) (by omega)
    cases hf : free l (kA s n) with
    | false => rfl
    | true => exact absurd (by omega) (h2 _ g3.1 hf)
def all (s : List Int) (l : List Ban) : List (List Int) := upto s l (prod s).toNat
theorem kinds_eq {s : List Int} {l : List Ban} (ht : okT s l = true) (fuel : Nat) (hf : 3200 ≤ fuel) : GiCompatibleKinds.P fuel s l = some (all s l) := by
  obtain ⟨t1, t2, t3, t4, t5⟩ := okT_of ht
  have hP := prod_pos (pos_of t4)
  have hsm := prod_small' t4 t2
  obtain ⟨⟨k0, b0⟩, h1, h2⟩ := firstOf_eq ht fuel hf
  have h3 := first_upto t4 t2 (m := 0) (by omega) h2
  simp only [GiCompatibleKinds.P, h1, bind2_some]
  obtain ⟨r, hr, rfl⟩ := lp_ex (f := GiCompatibleKinds.l0 s l fuel) (fin := GiCompatibleKinds.e0) (Q := fun r => r = all s l) (n := 3126)
    (fun j (st : List (List Int) × List Int × Bool) => (st.2.2 = true ∧ okK s st.2.1 = true ∧ free l st.2.1 = true ∧ (j : Int) ≤ num s st.2.1 ∧ st.1 = upto s l (num s st.2.1).toNat) ∨ (st.2.2 = false ∧ st.1 = all s l)) (by
    rintro j ⟨ks, k, ok⟩ nx hj hI hn
    dsimp only at hI
    simp only [GiCompatibleKinds.l0, unp3, letK, appK, iteK_if]
    rcases hI with ⟨g1, g2, g3, g4, g5⟩ | ⟨g1, g2⟩
    · have hr := num_range (pos_of t4) g2
      have hlen := upto_len s l (num s k).toNat
      rw [if_pos g1, guardK_pos (by rw [g5]; omega)]
      obtain ⟨⟨k', b'⟩, e1, e2⟩ := firstBehind_eq ht g2 fuel hf
      simp only [e1, bind2_some]
      have e3 := first_upto (r := (k', b')) (m := (num s k).toNat + 1) t4 t2 (by omega) (by rw [show (((num s k).toNat + 1 : Nat) : Int) = num s k + 1 by omega]; exact e2)
      have e4 : ks ++ [k] = upto s l ((num s k).toNat + 1) := by rw [upto_succ, kA_num t4 t2 g2, if_pos g3, g5]
      refine hn _ ?_
      dsimp only at e3 ⊢
      cases b' with
      | true =>
        obtain ⟨f1, f2, f3, f4⟩ := e3.1 rfl
        exact .inl ⟨rfl, f1, f2, by omega, by rw [e4, f4]⟩
      | false => exact .inr ⟨rfl, by rw [e4]; unfold all; rw [e3.2 rfl]⟩
    · rw [if_neg (by rw [g1]; simp)]
      exact ⟨_, rfl, g2⟩) (by
    rintro ⟨ks, k, ok⟩ nx hI
    dsimp only at hI
    rcases hI with ⟨g1, g2, g3, g4, g5⟩ | ⟨g1, g2⟩
    · have hr := num_range (pos_of t4) g2
      omega
    · simp only [GiCompatibleKinds.l0, unp3, letK, appK, iteK_if]
      rw [if_neg (by rw [g1]; simp)]
      exact ⟨_, rfl, g2⟩) fuel 0 ([], k0, b0) (by omega) (by omega) (by
    dsimp only at h3 ⊢
    cases b0 with
    | true =>
      obtain ⟨f1, f2, f3, f4⟩ := h3.1 rfl
      have hr := num_range (pos_of t4) f1
      exact .inl ⟨rfl, f1, f2, by simpa using hr.1, by rw [f4]; rfl⟩
    | false => exact .inr ⟨rfl, by unfold all; rw [h3.2 rfl]; rfl⟩)
  exact hr
end Go.Proofs.Ytekacbjnpeglhaa.Q6List

/- Chapter 6: kinds that are counted: the program's list of them and the reference's sums. (Q6With) No condition but those of each theorem. -/
namespace Go.Proofs.Ytekacbjnpeglhaa.Q6With
set_option linter.unusedVariables false
set_option linter.unusedSimpArgs false
open Go.RowKit
open Go.Proofs.Ytekacbjnpeglhaa.GoP Go.Proofs.Ytekacbjnpeglhaa.PlainStamp Go.Proofs.Ytekacbjnpeglhaa.QBase Go.Proofs.Ytekacbjnpeglhaa.Q6List Go.Proofs.Ytekacbjnpeglhaa.Q6Spec Go.Proofs.Ytekacbjnpeglhaa.Q6First Go.Proofs.Ytekacbjnpeglhaa.Q6Num Go.Proofs.Ytekacbjnpeglhaa.Q6Kind Go.Proofs.Ytekacbjnpeglhaa.Q6Tab Go.Proofs.Ytekacbjnpeglhaa.Q6Ban Go.Proofs.Ytekacbjnpeglhaa.QLoop Go.Proofs.Ytekacbjnpeglhaa.QAll Go.Proofs.Ytekacbjnpeglhaa.PBan

def qv (a v : Int) (k : List Int) : Bool := decide (a < 0) || (k[a.toNat]?.getD 0 == v)
def cntTo (s : List Int) (l : List Ban) (a v : Int) (m : Nat) : Nat := ((List.range m).filter fun n => qv a v (kA s n) && free l (kA s n)).length
theorem cntTo_succ (s : List Int) (l : List Ban) (a v : Int) (m : Nat) : cntTo s l a v (m + 1) = if (qv a v (kA s m) && free l (kA s m)) = true then cntTo s l a v m + 1 else cntTo s l a v m := by
  unfold cntTo
  rw [List.range_succ, List.filter_append, List.length_append]
  cases h : (qv a v (kA s m) && free l (kA s m)) <;> simp [List.filter, h]
theorem cntTo_le (s : List Int) (l : List Ban) (a v : Int) (m : Nat) : cntTo s l a v m ≤ m := by
  unfold cntTo
  have := List.length_filter_le (fun n => qv a v (kA s n) && free l (kA s n)) (List.range m)
  rw [List.length_range] at this
  exact this
theorem with_eq {s : List Int} {l : List Ban} (ht : okT s l = true) (a v : Int) (ha : a < 0 ∨ ∃ i : Nat, a = (i : Int) ∧ i < s.length) (fuel : Nat) (hf : 3200 ≤ fuel) : GsL6With.P fuel s l a v = some ((cntTo s l a v (prod s).toNat : Nat) : Int) := by
  obtain ⟨t1, t2, t3, t4, t5⟩ := okT_of ht
  have hP := prod_pos (pos_of t4)
  have hsm := prod_small' t4 t2
  simp only [GsL6With.P]
  obtain ⟨r, hr, rfl⟩ := lp_ex (f := GsL6With.l0 s l a v fuel) (fin := GsL6With.e0) (Q := fun r => r = ((cntTo s l a v (prod s).toNat : Nat) : Int)) (n := (prod s).toNat)
    (fun j (st : Int × Int) => st.2 = (j : Int) ∧ st.1 = ((cntTo s l a v j : Nat) : Int)) (by
    rintro j ⟨x, y⟩ nx hj ⟨h1, h2⟩ hn
    dsimp only at h1 h2
    subst h1; subst h2
    have hlt : (j : Int) < prod s := by omega
    have hok := kA_spec t4 t2 hlt
    have hle := cntTo_le s l a v j
    have hs' := cntTo_succ s l a v j
    have hc : decide ((j : Int) < prod s) = true := by simpa using hlt
    simp only [GsL6With.l0, unp2, letK, l6All_eq t4 t2 l fuel (by omega), Option.bind_some, hc, iteK_if, if_true, l6At_is t4 t2 l hlt fuel (by omega), l6Free_eq ht (okK_len hok.1) fuel (by omega), joinK, appK]
    have fin : ∀ b, (qv a v (kA s j) && free l (kA s j)) = b → ∃ r, (if b = true then nx (IntKind.i64.wrap (((cntTo s l a v j : Nat) : Int) + 1), IntKind.i64.wrap ((j : Int) + 1)) else nx (((cntTo s l a v j : Nat) : Int), IntKind.i64.wrap ((j : Int) + 1))) = some r ∧ r = ((cntTo s l a v (prod s).toNat : Nat) : Int) := by
      intro b hb
      rw [hb] at hs'
      cases b with
      | true =>
        rw [if_pos rfl] at hs' ⊢
        rw [wrap_in (x := ((cntTo s l a v j : Nat) : Int) + 1) (by omega) (by omega), next_i (by omega)]
        exact hn _ ⟨rfl, by dsimp only; rw [hs']; omega⟩
      | false =>
        rw [if_neg (by simp)] at hs' ⊢
        rw [next_i (by omega)]
        exact hn _ ⟨rfl, by dsimp only; rw [hs']⟩
    rcases ha with ha | ⟨i, rfl, hi⟩
    · have hq : qv a v (kA s j) = true := by unfold qv; simp [ha]
      have := fin (free l (kA s j)) (by rw [hq]; simp)
      simpa [ha] using this
    · obtain ⟨x, hx, hxi⟩ := at_lt (l := kA s j) (k := i) (by rw [okK_len hok.1]; exact hi)
      have hq : qv (i : Int) v (kA s j) = (x == v) := by unfold qv; rw [Int.toNat_natCast, hx]; simp; omega
      have := fin ((x == v) && free l (kA s j)) (by rw [hq])
      have hn0 : ¬ ((i : Int) < 0) := by omega
      simp only [hn0, decide_false, Bool.false_eq_true, if_false, hxi, Option.bind_some]
      cases hxv : (x == v) with
      | true => rw [hxv] at this; simpa using this
      | false => rw [hxv] at this; simpa using this) (by
    rintro ⟨x, y⟩ nx ⟨h1, h2⟩
    dsimp only at h1 h2
    subst h1; subst h2
    have hc : decide ((((prod s).toNat : Nat) : Int) < prod s) = false := by simp; omega
    simp only [GsL6With.l0, unp2, letK, l6All_eq t4 t2 l fuel (by omega), Option.bind_some, hc, iteK_if, Bool.false_eq_true, if_false, appK, GsL6With.e0]
    exact ⟨_, rfl, rfl⟩) fuel 0 (0, 0) (by omega) (by omega) ⟨rfl, by simp [cntTo]⟩
  exact hr
theorem all_count (s : List Int) (l : List Ban) : cntTo s l (-1) 0 (prod s).toNat = (all s l).length := by
  unfold cntTo all upto
  rw [List.length_map]
  simp [qv]
end Go.Proofs.Ytekacbjnpeglhaa.Q6With

/- Chapter 5: combs, holes, gauges: the plain functions of the program and of the reference agree, and the laws answer true. (QToI) No condition but those of each theorem. -/
namespace Go.Proofs.Ytekacbjnpeglhaa.QToI
set_option linter.unusedVariables false
set_option linter.unusedSimpArgs false
open Go.RowKit
open Go.Proofs.Ytekacbjnpeglhaa.GoP Go.Proofs.Ytekacbjnpeglhaa.PlainStamp Go.Proofs.Ytekacbjnpeglhaa.QBase Go.Proofs.Ytekacbjnpeglhaa.QLoop

theorem toI (l : List Int) (hl : l.length ≤ 1048576) : GlToIntS.P l = some l := by
  simp only [GlToIntS.P, letK]
  rw [guardK_pos (by omega)]
  refine cnt_is l (fun k s => s = l.take k ++ List.replicate (l.length - k) 0) ?_ ?_ _ (by simp)
  · intro k s nx hk hI hn
    obtain ⟨x, hx, hi⟩ := at_lt (l := l) (k := k) hk
    have hlen : s.length = l.length := by rw [hI]; simp; omega
    obtain ⟨z, hz, hj⟩ := at_lt (l := s) (k := k) (by omega)
    simp only [GlToIntS.l0, hi, hj, Option.bind_some, letK, appK]
    refine hn _ ?_
    rw [hI, take_next hx, List.set_append_right _ _ (by simp; omega)]
    have hr : l.length - k = (l.length - (k + 1)) + 1 := by omega
    rw [hr, List.replicate_succ, List.append_assoc]
    simp [show k - min k l.length = 0 by omega]
  · intro s hI
    rw [hI]; simp [GlToIntS.e0, letK]
end Go.Proofs.Ytekacbjnpeglhaa.QToI

/- The laws' helpers on Ban and on slices of it as plain functions: copied, equal, their bulk. No condition. -/
namespace Go.Proofs.Ytekacbjnpeglhaa.QHBanE
set_option linter.unusedVariables false
set_option linter.unusedSimpArgs false
open Go.RowKit
open Go.Proofs.Ytekacbjnpeglhaa.GoP Go.Proofs.Ytekacbjnpeglhaa.QBase Go.Proofs.Ytekacbjnpeglhaa.QLoop Go.Proofs.Ytekacbjnpeglhaa.PBan

theorem toOne (s : Ban) : GlToBan.P s = some s := by cases s; rfl
theorem eqOne (s : Ban) : GlEqBan.P s s = some true := by
  obtain ⟨x0, x1, x2, x3⟩ := s
  simp [GlEqBan.P, unBan, letK, joinK, appK, iteK_if]
theorem toS (l : List Ban) (hl : l.length ≤ 1048576) : GlToBanS.P l = some l := by
  simp only [GlToBanS.P, letK]
  rw [guardK_pos (by omega)]
  refine cnt_is l (fun k s => s = l.take k ++ List.replicate (l.length - k) (Ban.mk 0 0 0 0)) ?_ ?_ _ (by simp)
  · intro k s nx hk hI hn
    obtain ⟨x, hx, hi⟩ := at_lt (l := l) (k := k) hk
    have hlen : s.length = l.length := by rw [hI]; simp; omega
    obtain ⟨z, hz, hj⟩ := at_lt (l := s) (k := k) (by omega)
    simp only [GlToBanS.l0, hi, hj, toOne, Option.bind_some, unBan, letK, appK]
    refine hn _ ?_
    rw [hI, take_next hx, List.set_append_right _ _ (by simp; omega)]
    have hr : l.length - k = (l.length - (k + 1)) + 1 := by omega
    rw [hr, List.replicate_succ, List.append_assoc]
    simp [show k - min k l.length = 0 by omega]
  · intro s hI
    rw [hI]; simp [GlToBanS.e0, letK]
theorem eqS (l : List Ban) : GlEqBanS.P l l = some true := by
  simp only [GlEqBanS.P, letK, iteK_if]
  rw [if_neg (by simp)]
  refine cnt_is true (fun _ _ => True) ?_ (fun s _ => rfl) () trivial
  intro k s nx hk _ hn
  obtain ⟨x, hx, hi⟩ := at_lt (l := l) (k := k) hk
  simp only [GlEqBanS.l0, hi, Option.bind_some, unBan, eqOne, letK, appK, iteK_if]
  exact hn () trivial
theorem szS (l : List Ban) (hl : l.length ≤ 9223372036854775807) : GlSzBanS.P l 1048576 = some (if l.length ≤ 1048576 then 1048576 - (l.length : Int) else -1) := by
  simp only [GlSzBanS.P, letK, iteK_if]
  rw [wrap_in (by omega) (by omega)]
  by_cases h : l.length ≤ 1048576
  · rw [if_neg (by simp; omega), if_pos h]
  · rw [if_pos (by simp; omega), if_neg h]
end Go.Proofs.Ytekacbjnpeglhaa.QHBanE

/- Chapter 6: tables of kinds: the plain functions of the program and of the reference agree, and the laws answer true. (Q6Help) No condition but those of each theorem. -/
namespace Go.Proofs.Ytekacbjnpeglhaa.Q6Help
set_option linter.unusedVariables false
set_option linter.unusedSimpArgs false
open Go.RowKit
open Go.Proofs.Ytekacbjnpeglhaa.GoP Go.Proofs.Ytekacbjnpeglhaa.PlainStamp Go.Proofs.Ytekacbjnpeglhaa.QBase Go.Proofs.Ytekacbjnpeglhaa.QLoop Go.Proofs.Ytekacbjnpeglhaa.QAll Go.Proofs.Ytekacbjnpeglhaa.PBan Go.Proofs.Ytekacbjnpeglhaa.QToI Go.Proofs.Ytekacbjnpeglhaa.QHBanE

theorem szT (s : List Int) (l : List Ban) (hs : s.length ≤ 9223372036854775807) (hl : l.length ≤ 9223372036854775807) : ∃ c, GlSzKindTable.P s l 1048576 = some c ∧ (0 ≤ c → s.length ≤ 1048576 ∧ l.length ≤ 1048576) := by
  simp only [GlSzKindTable.P, GlSzIntS.P, GlSzBanS.P, letK, iteK_if]
  rw [wrap_in (x := 1048576 - (s.length : Int)) (by omega) (by omega)]
  by_cases h : (1048576 - (s.length : Int)) < 0
  · exact ⟨-1, by simp [h], by omega⟩
  · rw [if_neg (by simpa using h)]
    simp only [Option.bind_some]
    rw [if_neg (by simpa using h), wrap_in (by omega) (by omega)]
    by_cases h2 : (1048576 - (s.length : Int) - (l.length : Int)) < 0
    · exact ⟨-1, by simp [h2], by omega⟩
    · exact ⟨_, by rw [if_neg (by simpa using h2)]; simp only [Option.bind_some]; rw [if_neg (by simpa using h2)], by omega⟩
theorem toT (s : List Int) (l : List Ban) (hs : s.length ≤ 1048576) (hl : l.length ≤ 1048576) : GlToKindTable.P s l = some ⟨s, l⟩ := by
  simp only [GlToKindTable.P, toI s hs, toS l hl, Option.bind_some]
theorem eqI2 (l : List Int) : GlEqIntS.P l l = some true := by
  simp only [GlEqIntS.P, letK, iteK_if]
  rw [if_neg (by simp)]
  refine cnt_is true (fun _ _ => True) ?_ (fun s _ => rfl) () trivial
  intro k s nx hk _ hn
  obtain ⟨x, hx, hi⟩ := at_lt (l := l) (k := k) hk
  simp only [GlEqIntS.l0, hi, Option.bind_some, letK, appK, iteK_if]
  rw [if_neg (by simp)]
  exact hn () trivial
theorem eqT (s : List Int) (l : List Ban) : GlEqKindTable.P s l s l = some true := by
  simp [GlEqKindTable.P, eqI2, eqS, letK, iteK_if]
end Go.Proofs.Ytekacbjnpeglhaa.Q6Help

/- Chapter 6: kinds that are counted: the program's list of them and the reference's sums. (QL6Count) No condition but those of each theorem. -/
namespace Go.Proofs.Ytekacbjnpeglhaa.QL6Count
set_option linter.unusedVariables false
set_option linter.unusedSimpArgs false
open Go.RowKit
open Go.Proofs.Ytekacbjnpeglhaa.GoP Go.Proofs.Ytekacbjnpeglhaa.PlainStamp Go.Proofs.Ytekacbjnpeglhaa.QBase Go.Proofs.Ytekacbjnpeglhaa.Q6With Go.Proofs.Ytekacbjnpeglhaa.Q6List Go.Proofs.Ytekacbjnpeglhaa.Q6Tab Go.Proofs.Ytekacbjnpeglhaa.Q6Help Go.Proofs.Ytekacbjnpeglhaa.QLoop Go.Proofs.Ytekacbjnpeglhaa.PBan

theorem count_impl (fuel : Nat) (hf : 3200 ≤ fuel) (s : List Int) (l : List Ban) (hs : s.length ≤ 9223372036854775807) (hl : l.length ≤ 9223372036854775807) :
    GiCountCompatible.P fuel s l = some (if okT s l = true then (((all s l).length : Int), true) else (0, false)) := by
  simp only [GiCountCompatible.P, isTable_eq s l hs hl, Option.bind_some, letK, iteK_if]
  cases ht : okT s l with
  | false => simp
  | true => simp [kinds_eq ht fuel hf]
theorem count_spec (fuel : Nat) (hf : 3200 ≤ fuel) (s : List Int) (l : List Ban) (hs : s.length ≤ 9223372036854775807) (hl : l.length ≤ 9223372036854775807) :
    GsCountCompatible.P fuel s l = some (if okT s l = true then (((all s l).length : Int), true) else (0, false)) := by
  simp only [GsCountCompatible.P, l6Good_eq fuel (by omega) s l hs hl, Option.bind_some, letK, iteK_if]
  cases ht : okT s l with
  | false => simp
  | true => simp [with_eq ht (-1) 0 (.inl (by omega)) fuel hf, all_count]
theorem law_count (fuel : Nat) (hf : 3200 ≤ fuel) (s : List Int) (l : List Ban) (hs : s.length ≤ 9223372036854775807) (hl : l.length ≤ 9223372036854775807) : GlFnExactCountCompatible.P fuel s l = some true := by
  obtain ⟨c, hc, hb⟩ := szT s l hs hl
  simp only [GlFnExactCountCompatible.P, hc, Option.bind_some, letK, iteK_if]
  by_cases h : c < 0
  · simp [h]
  · obtain ⟨h1, h2⟩ := hb (by omega)
    obtain ⟨⟨p, q⟩, hr⟩ : ∃ x, x = (if okT s l = true then (((all s l).length : Int), true) else (0, false)) := ⟨_, rfl⟩
    simp [h, toT s l h1 h2, unKindTable, count_impl fuel hf s l hs hl, count_spec fuel hf s l hs hl, ← hr, eqT, bind2, joinK, appK, iteK_if]
end Go.Proofs.Ytekacbjnpeglhaa.QL6Count

/- A slice of strings or of integers that lies in a record that came in: the list that it reads as. No condition. -/
namespace Go.Proofs.Ytekacbjnpeglhaa.OpenNest
set_option linter.unusedVariables false
open Go.Joins Go.ChangeShapes Go.WideShapes Go.RowKit Go.Deep Go.Proofs.Ytekacbjnpeglhaa.Rowed
theorem len1 {l : List Value} (h : l.length = 1) : ∃ a, l = [a] := List.length_eq_one_iff.1 h
theorem len2 {l : List Value} (h : l.length = 2) : ∃ a b, l = [a, b] := by
  match l, h with
  | [a, b], _ => exact ⟨a, b, rfl⟩
theorem len3 {l : List Value} (h : l.length = 3) : ∃ a b c, l = [a, b, c] := by
  match l, h with
  | [a, b, c], _ => exact ⟨a, b, c, rfl⟩
theorem len4 {l : List Value} (h : l.length = 4) : ∃ a b c d, l = [a, b, c, d] := by
  match l, h with
  | [a, b, c, d], _ => exact ⟨a, b, c, d, rfl⟩
theorem len5 {l : List Value} (h : l.length = 5) : ∃ a b c d e, l = [a, b, c, d, e] := by
  match l, h with
  | [a, b, c, d, e], _ => exact ⟨a, b, c, d, e, rfl⟩
section
variable {H : Type} {enc : TypeId × Value → H} {P : Program} {w : World}
theorem one_strs {t e : TypeId} {fuel : Nat} {u : Value} {x : DataW H × List MemPlace} (ht : P.underlying t = some (.slice e)) (he : P.underlying e = some .string) (hc : P.cellsOf e = 1)
    (h : DataW.trod enc P w 0 (fun _ => true) true fuel t [u] = some x) :
    ∃ (a : Option Addr) (len cap : Nat) (l : List ByteArray), u = .slice a len cap ∧ Cells w 1 a len (l.map Value.string) ∧ l.length = len ∧ len ≤ maxLen ∧ ∀ s ∈ l, s.size ≤ maxLen := by
  rcases open_strings ht he hc h with ⟨hcs, _⟩ | ⟨x, l, c, zs, hcs, hxb, hl, hm, hz, hdat, hcell, hwz⟩
  · obtain rfl : u = .slice none 0 0 := by simpa using hcs
    exact ⟨none, 0, 0, [], rfl, Cells.nil_ _ _ _, rfl, by unfold maxLen; omega, by intro s hs; simp at hs⟩
  · obtain rfl : u = .slice (some x) l c := by simpa using hcs
    have hz' : zs.length = c := by simpa using hz
    refine ⟨some x, l, c, zs.take l, rfl, ⟨by rw [List.length_map, List.length_take]; omega, fun _ => ⟨x, rfl, fun j u hu => ?_⟩⟩, by rw [List.length_take]; omega, by omega, fun s hs => hwz s (List.mem_of_mem_take hs)⟩
    rw [List.getElem?_map] at hu
    cases hj : (zs.take l)[j]? with
    | none => rw [hj] at hu; simp at hu
    | some y =>
      rw [hj] at hu
      obtain rfl : Value.string y = u := by simpa using hu
      have hjl := (List.getElem?_eq_some_iff.1 hj).1
      rw [List.length_take] at hjl
      rw [List.getElem?_take_of_lt (by omega)] at hj
      rw [hcell j (by omega), List.getD_eq_getElem?_getD, hj]; rfl
theorem one_ints {t e : TypeId} {fuel : Nat} {u : Value} {x : DataW H × List MemPlace} (ht : P.underlying t = some (.slice e)) (he : P.underlying e = some (.int .i64)) (hc : P.cellsOf e = 1)
    (h : DataW.trod enc P w 0 (fun _ => true) true fuel t [u] = some x) :
    ∃ (a : Option Addr) (len cap : Nat) (l : List Int), u = .slice a len cap ∧ Cells w 1 a len (l.map (Value.int .i64)) ∧ l.length = len ∧ len ≤ maxLen ∧ ∀ n ∈ l, (Lit.int .i64 n).wf = true := by
  rcases open_ints ht he hc h with ⟨hcs, _⟩ | ⟨x, l, c, zs, hcs, hxb, hl, hm, hz, hdat, hcell, hwz⟩
  · obtain rfl : u = .slice none 0 0 := by simpa using hcs
    exact ⟨none, 0, 0, [], rfl, Cells.nil_ _ _ _, rfl, by unfold maxLen; omega, by intro s hs; simp at hs⟩
  · obtain rfl : u = .slice (some x) l c := by simpa using hcs
    have hz' : zs.length = c := by simpa using hz
    refine ⟨some x, l, c, zs.take l, rfl, ⟨by rw [List.length_map, List.length_take]; omega, fun _ => ⟨x, rfl, fun j u hu => ?_⟩⟩, by rw [List.length_take]; omega, by omega, fun s hs => hwz s (List.mem_of_mem_take hs)⟩
    rw [List.getElem?_map] at hu
    cases hj : (zs.take l)[j]? with
    | none => rw [hj] at hu; simp at hu
    | some y =>
      rw [hj] at hu
      obtain rfl : Value.int .i64 y = u := by simpa using hu
      have hjl := (List.getElem?_eq_some_iff.1 hj).1
      rw [List.length_take] at hjl
      rw [List.getElem?_take_of_lt (by omega)] at hj
      rw [hcell j (by omega), List.getD_eq_getElem?_getD, hj]; rfl
end
end Go.Proofs.Ytekacbjnpeglhaa.OpenNest

