/- Texts on which the proofs of several laws stand, one behind the other (4 of 18). No condition of their own. -/
import Derived.Test.YtgimcnpkngpmiaaChecked
import Derived.Test.YtgimcnpkngpmiaaX11P1
import Derived.Test.YtgimcnpkngpmiaaX11P2
import Derived.WalkKit
import Derived.WalkSpells
import Derived.WalkLawsBesides
import Derived.BigQuiet
import Derived.OwnWalk
import Derived.Deep.LoopGhost
import Derived.Deep.QuietTactic
import Derived.IntWalk
import Derived.Lib.QuietBelow
import Derived.Lib.ConvBytes
import Derived.Laws.BytesString
import Derived.Laws.IdiomStrings
import Derived.Laws.BytesArg
import Derived.Lib.Hide
import Derived.Lib.LaidU8
import Derived.Outline
import Derived.Lib.SliceRun
/- loop.example/g01062/spec.l11Good as a plain function, and the contract of the program's: where the plain one has an answer, the program has it. Conditions: slices read as lists. -/
namespace Go.Proofs.Ytgimcnpkngpmiaa.GsL11Good
set_option linter.unusedVariables false
set_option linter.unusedSimpArgs false
open Go.RowKit
open Go.Proofs.Ytgimcnpkngpmiaa.Rowed Go.Proofs.Ytgimcnpkngpmiaa.Turn Go.Proofs.Ytgimcnpkngpmiaa.Aid Go.Proofs.Ytgimcnpkngpmiaa.GoP Go.Proofs.Ytgimcnpkngpmiaa.GoM

def l0 (list : (List Go.Proofs.Ytgimcnpkngpmiaa.PPostmark.Postmark)) (fuel : Nat) (k0 : Nat) (s : Unit) (nx0 bk0 : Unit → Option (Bool)) : Option (Bool) :=
  
  Option.bind (idx list (k0 : Int)) fun (yt_8 : Go.Proofs.Ytgimcnpkngpmiaa.PPostmark.Postmark) =>
  unPostmark yt_8 fun (t_8_id : Int) (t_8_town : ByteArray) (t_8_kind_ : Int) (t_8_first : Int) (t_8_last : Int) (t_8_lost : ByteArray) =>
  Option.bind (Go.Proofs.Ytgimcnpkngpmiaa.GsL11One.P fuel (Go.Proofs.Ytgimcnpkngpmiaa.PPostmark.Postmark.mk t_8_id t_8_town t_8_kind_ t_8_first t_8_last t_8_lost)) fun (t_10 : Bool) =>
  letK (!t_10) fun (t_11 : Bool) =>
  joinK (fun (t_29 : Bool) =>
  iteK t_29
  (some false)
  (appK nx0 ())) fun jt_29 => iteK t_11 (appK jt_29 true) (letK (decide (0 < (k0 : Int))) fun (t_14 : Bool) =>
  joinK (fun (t_28 : Bool) =>
  appK jt_29 t_28) fun jt_28 => iteK t_14 (letK (IntKind.i64.wrap ((k0 : Int) - 1)) fun (t_18 : Int) =>
  Option.bind (idx list t_18) fun (yt_19 : Go.Proofs.Ytgimcnpkngpmiaa.PPostmark.Postmark) =>
  unPostmark yt_19 fun (t_19_id : Int) (t_19_town : ByteArray) (t_19_kind_ : Int) (t_19_first : Int) (t_19_last : Int) (t_19_lost : ByteArray) =>
  Option.bind (idx list (k0 : Int)) fun (yt_24 : Go.Proofs.Ytgimcnpkngpmiaa.PPostmark.Postmark) =>
  unPostmark yt_24 fun (t_24_id : Int) (t_24_town : ByteArray) (t_24_kind_ : Int) (t_24_first : Int) (t_24_last : Int) (t_24_lost : ByteArray) =>
  letK (decide (t_24_id ≤ t_19_id)) fun (t_27 : Bool) =>
  appK jt_28 t_27) (appK jt_28 false))

def e0 (list : (List Go.Proofs.Ytgimcnpkngpmiaa.PPostmark.Postmark)) (s : Unit) : Option (Bool) :=
  
  letK (decide ((list.length : Int) ≤ 12)) fun (t_36 : Bool) =>
  some t_36

def P (fuel : Nat) (list : (List Go.Proofs.Ytgimcnpkngpmiaa.PPostmark.Postmark)) : Option (Bool) :=
  cntK (l0 list fuel) (list.length) 0 () (e0 list)

set_option maxRecDepth 100000 in
set_option maxHeartbeats 2000000 in
theorem C (fuel : Nat) (list : (List Go.Proofs.Ytgimcnpkngpmiaa.PPostmark.Postmark)) (A0 : Option Addr) (c0 : Nat)  (w : World) (M0 : Hid (Cells w 6 A0 list.length (Go.Proofs.Ytgimcnpkngpmiaa.PPostmark.flat list))) (N0 : Hid (list.length ≤ 9223372036854775807))  {r : Bool} (H : Hid (P fuel list = some r)) :
    Calls Try.prog 45 #[.slice A0 list.length c0] w (Gives (.bool r) w) := by
  have HB := Lib.hid (Below.refl w.heap.size w)
  unfold P at H
  have N0o := N0.out
  go_enter Try.func45, Try.ntmps45
  go_wp2_with fail
  go_loopg [3] (list.length) (fun m_ v3_ wr => ∃ (k0 : Nat) , k0 + m_ = list.length ∧ v3_ = .int .i64 (k0 : Int) ∧ Hid (cntK (l0 list fuel) m_ k0 () (e0 list) = some r) ∧ Hid (Below w.heap.size w wr))
  case atStart => exact ⟨0, by omega, rfl, H, HB⟩
  case round =>
    obtain ⟨k0, hkm0, rfl, H, HBwr0⟩ := hrel
    rename World => wr0
    cases gk with
    | zero =>
      obtain rfl : k0 = list.length := by omega
      have hc0 : decide (((list.length : Nat) : Int) < ((list.length : Nat) : Int)) = false := by simp
      replace H := cnt_zero H
      unfold e0 at H
      replace H := let_hid H
      obtain ⟨t_36, ht_36, H⟩ := H
      obtain rfl := ret_hid H
      go_wp2_with fail
      go_ret
      exact ⟨rfl, HBwr0.out⟩
    | succ m0 =>
      have hlt0 : k0 < list.length := by omega
      have hc0 : decide ((k0 : Int) < ((list.length : Nat) : Int)) = true := by simp; omega
      replace H := cnt_succ H
      unfold l0 at H
      go_wp2_with fail
      replace H := idx_hid H
      obtain ⟨nt_8, yt_8, et_8, lt_8, gt_8, H⟩ := H
      obtain rfl : k0 = nt_8 := by omega
      clear et_8
      obtain ⟨t_8_id, t_8_town, t_8_kind_, t_8_first, t_8_last, t_8_lost⟩ := yt_8
      replace H := unPostmark_hid H
      obtain ⟨ab_t_8, ao_t_8, zt_8, At_8, z_t_8, ct_8_0, ct_8_1, ct_8_2, ct_8_3, ct_8_4, ct_8_5⟩ := Go.Proofs.Ytgimcnpkngpmiaa.OPostmark.at_ M0.out lt_8
      obtain rfl := Option.some.inj (gt_8.out.symm.trans z_t_8)
      subst At_8
      have ltt_8 := cell_lt ct_8_0
      replace ct_8_0 := cell_below HBwr0.out ct_8_0
      replace ct_8_1 := cell_below HBwr0.out ct_8_1
      replace ct_8_2 := cell_below HBwr0.out ct_8_2
      replace ct_8_3 := cell_below HBwr0.out ct_8_3
      replace ct_8_4 := cell_below HBwr0.out ct_8_4
      replace ct_8_5 := cell_below HBwr0.out ct_8_5
      clear z_t_8
      have b0t_8 : (0 : Int) ≤ (k0 : Int) := by omega
      have b1t_8 : (k0 : Int) < ((list.length : Nat) : Int) := by omega
      have b2t_8 : ((k0 : Int)).toNat = k0 := by omega
      have Hct_8_0 := Lib.hid ct_8_0
      replace ct_8_0 := cell_regrown ct_8_0
      have Hct_8_1 := Lib.hid ct_8_1
      replace ct_8_1 := cell_regrown ct_8_1
      have Hct_8_2 := Lib.hid ct_8_2
      replace ct_8_2 := cell_regrown ct_8_2
      have Hct_8_3 := Lib.hid ct_8_3
      replace ct_8_3 := cell_regrown ct_8_3
      have Hct_8_4 := Lib.hid ct_8_4
      replace ct_8_4 := cell_regrown ct_8_4
      have Hct_8_5 := Lib.hid ct_8_5
      replace ct_8_5 := cell_regrown ct_8_5
      replace H := bind_hid H
      obtain ⟨t_10, qt_10, H⟩ := H
      have nt_10 : ∀ d os, Calls Try.prog 40 #[.agg #[.int .i64 t_8_id, .string t_8_town, .int .i64 t_8_kind_, .int .i64 t_8_first, .int .i64 t_8_last, .string t_8_lost]] (Go.Sort.grow (redrawn wr0 d) os) fun e w'' => e = .returned (.bool t_10) ∧ ∃ p : Regrown, w'' = Go.Sort.grow (redrawn wr0 p.d) p.os := fun d os => Calls.regrown_of (Go.Proofs.Ytgimcnpkngpmiaa.GsL11One.C fuel ((Go.Proofs.Ytgimcnpkngpmiaa.PPostmark.Postmark.mk t_8_id t_8_town t_8_kind_ t_8_first t_8_last t_8_lost))  _    qt_10)
      cases t_10 with
      | false =>
        replace H := let_hid H
        obtain ⟨t_11, ht_11, H⟩ := H
        obtain rfl : t_11 = true := ht_11.symm
        replace H := join_hid H
        replace H := ite_t H
        replace H := app_hid H
        refine wp_region_quiet_below (by kernel_rfl) (by kernel_rfl) ?_
        repeat (go_big_quiet_step (first | (go_at_call 40; exact nt_10 _ _)))
        refine wpQuiet_nil ?_
        intro Y4 hY4
        replace hY4 := below_class hY4
        clear nt_10
        replace ct_8_0 := Hct_8_0.out
        clear Hct_8_0
        replace ct_8_1 := Hct_8_1.out
        clear Hct_8_1
        replace ct_8_2 := Hct_8_2.out
        clear Hct_8_2
        replace ct_8_3 := Hct_8_3.out
        clear Hct_8_3
        replace ct_8_4 := Hct_8_4.out
        clear Hct_8_4
        replace ct_8_5 := Hct_8_5.out
        clear Hct_8_5
        have HBY4 := Lib.hid (Below.step HBwr0.out hY4)
        replace ct_8_0 := cell_below hY4 ct_8_0
        replace ct_8_1 := cell_below hY4 ct_8_1
        replace ct_8_2 := cell_below hY4 ct_8_2
        replace ct_8_3 := cell_below hY4 ct_8_3
        replace ct_8_4 := cell_below hY4 ct_8_4
        replace ct_8_5 := cell_below hY4 ct_8_5
        clear hY4
        replace H := ite_t H
        obtain rfl := ret_hid H
        go_wp2_with fail
        go_ret
        exact ⟨rfl, HBY4.out⟩
      | true =>
        replace H := let_hid H
        obtain ⟨t_11, ht_11, H⟩ := H
        obtain rfl : t_11 = false := ht_11.symm
        replace H := join_hid H
        replace H := ite_f H
        replace H := let_hid H
        obtain ⟨t_14, ht_14, H⟩ := H
        replace H := join_hid H
        cases t_14 with
        | false =>
          have nht_14 : ¬ (0 < k0) := by have := of_decide_eq_false ht_14; omega
          replace H := ite_f H
          replace H := app_hid H
          replace H := app_hid H
          refine wp_region_quiet_below (by kernel_rfl) (by kernel_rfl) ?_
          repeat (go_big_quiet_step (first | (go_at_call 40; exact nt_10 _ _)))
          refine wpQuiet_nil ?_
          intro Y4 hY4
          replace hY4 := below_class hY4
          clear nt_10
          replace ct_8_0 := Hct_8_0.out
          clear Hct_8_0
          replace ct_8_1 := Hct_8_1.out
          clear Hct_8_1
          replace ct_8_2 := Hct_8_2.out
          clear Hct_8_2
          replace ct_8_3 := Hct_8_3.out
          clear Hct_8_3
          replace ct_8_4 := Hct_8_4.out
          clear Hct_8_4
          replace ct_8_5 := Hct_8_5.out
          clear Hct_8_5
          have HBY4 := Lib.hid (Below.step HBwr0.out hY4)
          replace ct_8_0 := cell_below hY4 ct_8_0
          replace ct_8_1 := cell_below hY4 ct_8_1
          replace ct_8_2 := cell_below hY4 ct_8_2
          replace ct_8_3 := cell_below hY4 ct_8_3
          replace ct_8_4 := cell_below hY4 ct_8_4
          replace ct_8_5 := cell_below hY4 ct_8_5
          clear hY4
          replace H := ite_f H
          replace H := app_hid H
          go_wp2_with fail
          go_roundg m0
          case measure => omega
          case rel => exact ⟨k0 + 1, by omega, by go_num, H, HBY4⟩
        | true =>
          have nht_14 : 0 < k0 := by have := of_decide_eq_true ht_14; omega
          replace H := ite_t H
          replace H := let_hid H
          obtain ⟨t_18, ht_18, H⟩ := H
          replace H := idx_hid H
          obtain ⟨nt_19, yt_19, et_19, lt_19, gt_19, H⟩ := H
          subst et_19
          obtain ⟨t_19_id, t_19_town, t_19_kind_, t_19_first, t_19_last, t_19_lost⟩ := yt_19
          replace H := unPostmark_hid H
          obtain ⟨ab_t_19, ao_t_19, zt_19, At_19, z_t_19, ct_19_0, ct_19_1, ct_19_2, ct_19_3, ct_19_4, ct_19_5⟩ := Go.Proofs.Ytgimcnpkngpmiaa.OPostmark.at_ M0.out lt_19
          obtain rfl := Option.some.inj (gt_19.out.symm.trans z_t_19)
          simp only [Option.some.injEq, Addr.mk.injEq] at At_19
          obtain ⟨rfl, rfl, _⟩ := At_19
          have ltt_19 := cell_lt ct_19_0
          replace ct_19_0 := cell_below HBwr0.out ct_19_0
          replace ct_19_1 := cell_below HBwr0.out ct_19_1
          replace ct_19_2 := cell_below HBwr0.out ct_19_2
          replace ct_19_3 := cell_below HBwr0.out ct_19_3
          replace ct_19_4 := cell_below HBwr0.out ct_19_4
          replace ct_19_5 := cell_below HBwr0.out ct_19_5
          clear z_t_19
          have b0t_19 : (0 : Int) ≤ (nt_19 : Int) := by omega
          have b1t_19 : (nt_19 : Int) < ((list.length : Nat) : Int) := by omega
          have b2t_19 : ((nt_19 : Int)).toNat = nt_19 := by omega
          have Hct_19_0 := Lib.hid ct_19_0
          replace ct_19_0 := cell_regrown ct_19_0
          have Hct_19_1 := Lib.hid ct_19_1
          replace ct_19_1 := cell_regrown ct_19_1
          have Hct_19_2 := Lib.hid ct_19_2
          replace ct_19_2 := cell_regrown ct_19_2
          have Hct_19_3 := Lib.hid ct_19_3
          replace ct_19_3 := cell_regrown ct_19_3
          have Hct_19_4 := Lib.hid ct_19_4
          replace ct_19_4 := cell_regrown ct_19_4
          have Hct_19_5 := Lib.hid ct_19_5
          replace ct_19_5 := cell_regrown ct_19_5
          replace H := idx_hid H
          obtain ⟨nt_24, yt_24, et_24, lt_24, gt_24, H⟩ := H
          obtain rfl : k0 = nt_24 := by omega
          clear et_24
          obtain rfl := Option.some.inj (gt_8.out.symm.trans gt_24.out)
          clear gt_24 lt_24
          replace H := unPostmark_hid H
          replace H := let_hid H
          obtain ⟨t_27, ht_27, H⟩ := H
          replace H := app_hid H
          replace H := app_hid H
          refine wp_region_quiet_below (by kernel_rfl) (by kernel_rfl) ?_
          repeat (go_big_quiet_step (first | (go_at_call 40; exact nt_10 _ _)))
          refine wpQuiet_nil ?_
          intro Y4 hY4
          replace hY4 := below_class hY4
          clear nt_10
          replace ct_8_0 := Hct_8_0.out
          clear Hct_8_0
          replace ct_8_1 := Hct_8_1.out
          clear Hct_8_1
          replace ct_8_2 := Hct_8_2.out
          clear Hct_8_2
          replace ct_8_3 := Hct_8_3.out
          clear Hct_8_3
          replace ct_8_4 := Hct_8_4.out
          clear Hct_8_4
          replace ct_8_5 := Hct_8_5.out
          clear Hct_8_5
          replace ct_19_0 := Hct_19_0.out
          clear Hct_19_0
          replace ct_19_1 := Hct_19_1.out
          clear Hct_19_1
          replace ct_19_2 := Hct_19_2.out
          clear Hct_19_2
          replace ct_19_3 := Hct_19_3.out
          clear Hct_19_3
          replace ct_19_4 := Hct_19_4.out
          clear Hct_19_4
          replace ct_19_5 := Hct_19_5.out
          clear Hct_19_5
          have HBY4 := Lib.hid (Below.step HBwr0.out hY4)
          replace ct_8_0 := cell_below hY4 ct_8_0
          replace ct_8_1 := cell_below hY4 ct_8_1
          replace ct_8_2 := cell_below hY4 ct_8_2
          replace ct_8_3 := cell_below hY4 ct_8_3
          replace ct_8_4 := cell_below hY4 ct_8_4
          replace ct_8_5 := cell_below hY4 ct_8_5
          replace ct_19_0 := cell_below hY4 ct_19_0
          replace ct_19_1 := cell_below hY4 ct_19_1
          replace ct_19_2 := cell_below hY4 ct_19_2
          replace ct_19_3 := cell_below hY4 ct_19_3
          replace ct_19_4 := cell_below hY4 ct_19_4
          replace ct_19_5 := cell_below hY4 ct_19_5
          clear hY4
          cases t_27 with
          | false =>
            replace H := ite_f H
            replace H := app_hid H
            go_wp2_with fail
            go_roundg m0
            case measure => omega
            case rel => exact ⟨k0 + 1, by omega, by go_num, H, HBY4⟩
          | true =>
            replace H := ite_t H
            obtain rfl := ret_hid H
            go_wp2_with fail
            go_ret
            exact ⟨rfl, HBY4.out⟩
end Go.Proofs.Ytgimcnpkngpmiaa.GsL11Good

/- loop.example/g01062/impl.idOfPostmark as a plain function, and the contract of the program's: where the plain one has an answer, the program has it. Conditions: slices read as lists. -/
namespace Go.Proofs.Ytgimcnpkngpmiaa.GiIdOfPostmark
set_option linter.unusedVariables false
set_option linter.unusedSimpArgs false
open Go.RowKit
open Go.Proofs.Ytgimcnpkngpmiaa.Rowed Go.Proofs.Ytgimcnpkngpmiaa.Turn Go.Proofs.Ytgimcnpkngpmiaa.Aid Go.Proofs.Ytgimcnpkngpmiaa.GoP Go.Proofs.Ytgimcnpkngpmiaa.GoM

def P (p : Go.Proofs.Ytgimcnpkngpmiaa.PPostmark.Postmark) : Option (Int) :=
  unPostmark p fun (p_id : Int) (p_town : ByteArray) (p_kind_ : Int) (p_first : Int) (p_last : Int) (p_lost : ByteArray) =>
  some p_id

set_option maxRecDepth 100000 in
set_option maxHeartbeats 2000000 in
theorem C (p : Go.Proofs.Ytgimcnpkngpmiaa.PPostmark.Postmark)   (w : World)   {r : Int} (H : Hid (P p = some r)) :
    Calls Try.prog 47 #[p.val] w (Gives (.int .i64 r) w) := by
  have HB := Lib.hid (Below.refl w.heap.size w)
  unfold P at H
  obtain ⟨p_id, p_town, p_kind_, p_first, p_last, p_lost⟩ := p
  replace H := unPostmark_hid H
  unfold Go.Proofs.Ytgimcnpkngpmiaa.PPostmark.Postmark.val
  go_enter Try.func47, Try.ntmps47
  obtain ⟨w_p_0, hw_p_0⟩ : ∃ x, w.alloc (.cells #[.int .i64 p_id, .string p_town, .int .i64 p_kind_, .int .i64 p_first, .int .i64 p_last, .string p_lost] 26) = x := ⟨_, rfl⟩
  have bw_p_0 : Below w.heap.size w w_p_0 := by rw [← hw_p_0]; exact (Below.refl _ _).alloc (Nat.le_refl _) _
  have HBw_p_0 := Lib.hid (Below.step HB.out bw_p_0)
  clear bw_p_0
  have kp_0_0 : w_p_0.cell? ⟨w.heap.size, 0, none⟩ = some (.int .i64 p_id) := by rw [← hw_p_0]; exact box_new _ _ _ 0 _ rfl
  have kp_0_1 : w_p_0.cell? ⟨w.heap.size, 1, none⟩ = some (.string p_town) := by rw [← hw_p_0]; exact box_new _ _ _ 1 _ rfl
  have kp_0_2 : w_p_0.cell? ⟨w.heap.size, 2, none⟩ = some (.int .i64 p_kind_) := by rw [← hw_p_0]; exact box_new _ _ _ 2 _ rfl
  have kp_0_3 : w_p_0.cell? ⟨w.heap.size, 3, none⟩ = some (.int .i64 p_first) := by rw [← hw_p_0]; exact box_new _ _ _ 3 _ rfl
  have kp_0_4 : w_p_0.cell? ⟨w.heap.size, 4, none⟩ = some (.int .i64 p_last) := by rw [← hw_p_0]; exact box_new _ _ _ 4 _ rfl
  have kp_0_5 : w_p_0.cell? ⟨w.heap.size, 5, none⟩ = some (.string p_lost) := by rw [← hw_p_0]; exact box_new _ _ _ 5 _ rfl
  obtain rfl := ret_hid H
  go_wp2_with fail
  go_ret
  exact ⟨rfl, HBw_p_0.out⟩
end Go.Proofs.Ytgimcnpkngpmiaa.GiIdOfPostmark

/- loop.example/g01062/impl.areByKey[loop.example/g01062/impl.Postmark,int] as a plain function, and the contract of the program's: where the plain one has an answer, the program has it. Conditions: slices read as lists. -/
namespace Go.Proofs.Ytgimcnpkngpmiaa.GiAreByKeyPostmarkIntiIsPostmarkiIdOfPostmark
set_option linter.unusedVariables false
set_option linter.unusedSimpArgs false
open Go.RowKit
open Go.Proofs.Ytgimcnpkngpmiaa.Rowed Go.Proofs.Ytgimcnpkngpmiaa.Turn Go.Proofs.Ytgimcnpkngpmiaa.Aid Go.Proofs.Ytgimcnpkngpmiaa.GoP Go.Proofs.Ytgimcnpkngpmiaa.GoM

def l0 (list : (List Go.Proofs.Ytgimcnpkngpmiaa.PPostmark.Postmark)) (k0 : Nat) (s : Unit) (nx0 bk0 : Unit → Option (Bool)) : Option (Bool) :=
  
  Option.bind (idx list (k0 : Int)) fun (yt_11 : Go.Proofs.Ytgimcnpkngpmiaa.PPostmark.Postmark) =>
  unPostmark yt_11 fun (t_11_id : Int) (t_11_town : ByteArray) (t_11_kind_ : Int) (t_11_first : Int) (t_11_last : Int) (t_11_lost : ByteArray) =>
  Option.bind (Go.Proofs.Ytgimcnpkngpmiaa.GiIsPostmark.P (Go.Proofs.Ytgimcnpkngpmiaa.PPostmark.Postmark.mk t_11_id t_11_town t_11_kind_ t_11_first t_11_last t_11_lost)) fun (t_18 : Bool) =>
  letK (!t_18) fun (t_19 : Bool) =>
  joinK (fun (t_36 : Bool) =>
  iteK t_36
  (some false)
  (appK nx0 ())) fun jt_36 => iteK t_19 (appK jt_36 true) (letK (decide (0 < (k0 : Int))) fun (t_22 : Bool) =>
  joinK (fun (t_35 : Bool) =>
  appK jt_36 t_35) fun jt_35 => iteK t_22 (Option.bind (Go.Proofs.Ytgimcnpkngpmiaa.GiIdOfPostmark.P (Go.Proofs.Ytgimcnpkngpmiaa.PPostmark.Postmark.mk t_11_id t_11_town t_11_kind_ t_11_first t_11_last t_11_lost)) fun (t_26 : Int) =>
  letK (IntKind.i64.wrap ((k0 : Int) - 1)) fun (t_30 : Int) =>
  Option.bind (idx list t_30) fun (yt_31 : Go.Proofs.Ytgimcnpkngpmiaa.PPostmark.Postmark) =>
  unPostmark yt_31 fun (t_31_id : Int) (t_31_town : ByteArray) (t_31_kind_ : Int) (t_31_first : Int) (t_31_last : Int) (t_31_lost : ByteArray) =>
  Option.bind (Go.Proofs.Ytgimcnpkngpmiaa.GiIdOfPostmark.P (Go.Proofs.Ytgimcnpkngpmiaa.PPostmark.Postmark.mk t_31_id t_31_town t_31_kind_ t_31_first t_31_last t_31_lost)) fun (t_33 : Int) =>
  letK (decide (t_26 ≤ t_33)) fun (t_34 : Bool) =>
  appK jt_35 t_34) (appK jt_35 false))

def e0  (s : Unit) : Option (Bool) :=
  
  some true

def P (list : (List Go.Proofs.Ytgimcnpkngpmiaa.PPostmark.Postmark)) (most : Int) : Option (Bool) :=
  letK (decide (most < (list.length : Int))) fun (t_4 : Bool) =>
  iteK t_4
  (some false)
  (cntK (l0 list) (list.length) 0 () (e0 ))

set_option maxRecDepth 100000 in
set_option maxHeartbeats 2000000 in
theorem C (list : (List Go.Proofs.Ytgimcnpkngpmiaa.PPostmark.Postmark)) (most : Int) (A0 : Option Addr) (c0 : Nat)  (w : World) (M0 : Hid (Cells w 6 A0 list.length (Go.Proofs.Ytgimcnpkngpmiaa.PPostmark.flat list))) (N0 : Hid (list.length ≤ 9223372036854775807))  {r : Bool} (H : Hid (P list most = some r)) :
    Calls Try.prog 46 #[.slice A0 list.length c0, .int .i64 most, .func (.func 15) #[] #[], .func (.func 47) #[] #[]] w (Gives (.bool r) w) := by
  have HB := Lib.hid (Below.refl w.heap.size w)
  unfold P at H
  have N0o := N0.out
  go_enter Try.func46, Try.ntmps46
  replace H := let_hid H
  obtain ⟨t_4, ht_4, H⟩ := H
  cases t_4 with
  | false =>
    replace H := ite_f H
    go_wp2_with fail
    go_loopg [17] (list.length) (fun m_ v17_ wr => ∃ (k0 : Nat) , k0 + m_ = list.length ∧ v17_ = .int .i64 (k0 : Int) ∧ Hid (cntK (l0 list) m_ k0 () (e0 ) = some r) ∧ Hid (Below w.heap.size w wr))
    case atStart => exact ⟨0, by omega, rfl, H, HB⟩
    case round =>
      obtain ⟨k0, hkm0, rfl, H, HBwr0⟩ := hrel
      rename World => wr0
      cases gk with
      | zero =>
        obtain rfl : k0 = list.length := by omega
        have hc0 : decide (((list.length : Nat) : Int) < ((list.length : Nat) : Int)) = false := by simp
        replace H := cnt_zero H
        unfold e0 at H
        obtain rfl := ret_hid H
        go_wp2_with fail
        go_ret
        exact ⟨rfl, HBwr0.out⟩
      | succ m0 =>
        have hlt0 : k0 < list.length := by omega
        have hc0 : decide ((k0 : Int) < ((list.length : Nat) : Int)) = true := by simp; omega
        replace H := cnt_succ H
        unfold l0 at H
        replace H := idx_hid H
        obtain ⟨nt_11, yt_11, et_11, lt_11, gt_11, H⟩ := H
        obtain rfl : k0 = nt_11 := by omega
        clear et_11
        obtain ⟨t_11_id, t_11_town, t_11_kind_, t_11_first, t_11_last, t_11_lost⟩ := yt_11
        replace H := unPostmark_hid H
        obtain ⟨ab_t_11, ao_t_11, zt_11, At_11, z_t_11, ct_11_0, ct_11_1, ct_11_2, ct_11_3, ct_11_4, ct_11_5⟩ := Go.Proofs.Ytgimcnpkngpmiaa.OPostmark.at_ M0.out lt_11
        obtain rfl := Option.some.inj (gt_11.out.symm.trans z_t_11)
        subst At_11
        have ltt_11 := cell_lt ct_11_0
        replace ct_11_0 := cell_below HBwr0.out ct_11_0
        replace ct_11_1 := cell_below HBwr0.out ct_11_1
        replace ct_11_2 := cell_below HBwr0.out ct_11_2
        replace ct_11_3 := cell_below HBwr0.out ct_11_3
        replace ct_11_4 := cell_below HBwr0.out ct_11_4
        replace ct_11_5 := cell_below HBwr0.out ct_11_5
        clear z_t_11
        have b0t_11 : (0 : Int) ≤ (k0 : Int) := by omega
        have b1t_11 : (k0 : Int) < ((list.length : Nat) : Int) := by omega
        have b2t_11 : ((k0 : Int)).toNat = k0 := by omega
        obtain ⟨w_e_13, hw_e_13⟩ : ∃ x, wr0.alloc (.cells #[.int .i64 t_11_id, .string t_11_town, .int .i64 t_11_kind_, .int .i64 t_11_first, .int .i64 t_11_last, .string t_11_lost] 26) = x := ⟨_, rfl⟩
        have bw_e_13 : Below wr0.heap.size wr0 w_e_13 := by rw [← hw_e_13]; exact (Below.refl _ _).alloc (Nat.le_refl _) _
        have HBw_e_13 := Lib.hid (Below.step HBwr0.out bw_e_13)
        have ct_11_0__152 := cell_below bw_e_13 ct_11_0
        have ct_11_1__153 := cell_below bw_e_13 ct_11_1
        have ct_11_2__154 := cell_below bw_e_13 ct_11_2
        have ct_11_3__155 := cell_below bw_e_13 ct_11_3
        have ct_11_4__156 := cell_below bw_e_13 ct_11_4
        have ct_11_5__157 := cell_below bw_e_13 ct_11_5
        clear bw_e_13
        have ke_13_0 : w_e_13.cell? ⟨wr0.heap.size, 0, none⟩ = some (.int .i64 t_11_id) := by rw [← hw_e_13]; exact box_new _ _ _ 0 _ rfl
        have ke_13_1 : w_e_13.cell? ⟨wr0.heap.size, 1, none⟩ = some (.string t_11_town) := by rw [← hw_e_13]; exact box_new _ _ _ 1 _ rfl
        have ke_13_2 : w_e_13.cell? ⟨wr0.heap.size, 2, none⟩ = some (.int .i64 t_11_kind_) := by rw [← hw_e_13]; exact box_new _ _ _ 2 _ rfl
        have ke_13_3 : w_e_13.cell? ⟨wr0.heap.size, 3, none⟩ = some (.int .i64 t_11_first) := by rw [← hw_e_13]; exact box_new _ _ _ 3 _ rfl
        have ke_13_4 : w_e_13.cell? ⟨wr0.heap.size, 4, none⟩ = some (.int .i64 t_11_last) := by rw [← hw_e_13]; exact box_new _ _ _ 4 _ rfl
        have ke_13_5 : w_e_13.cell? ⟨wr0.heap.size, 5, none⟩ = some (.string t_11_lost) := by rw [← hw_e_13]; exact box_new _ _ _ 5 _ rfl
        go_wp2_with fail
        clear ct_11_0 ct_11_1 ct_11_2 ct_11_3 ct_11_4 ct_11_5
        have Hct_11_0__152 := Lib.hid ct_11_0__152
        replace ct_11_0__152 := cell_regrown ct_11_0__152
        have Hct_11_1__153 := Lib.hid ct_11_1__153
        replace ct_11_1__153 := cell_regrown ct_11_1__153
        have Hct_11_2__154 := Lib.hid ct_11_2__154
        replace ct_11_2__154 := cell_regrown ct_11_2__154
        have Hct_11_3__155 := Lib.hid ct_11_3__155
        replace ct_11_3__155 := cell_regrown ct_11_3__155
        have Hct_11_4__156 := Lib.hid ct_11_4__156
        replace ct_11_4__156 := cell_regrown ct_11_4__156
        have Hct_11_5__157 := Lib.hid ct_11_5__157
        replace ct_11_5__157 := cell_regrown ct_11_5__157
        have Hke_13_0 := Lib.hid ke_13_0
        replace ke_13_0 := cell_regrown ke_13_0
        have Hke_13_1 := Lib.hid ke_13_1
        replace ke_13_1 := cell_regrown ke_13_1
        have Hke_13_2 := Lib.hid ke_13_2
        replace ke_13_2 := cell_regrown ke_13_2
        have Hke_13_3 := Lib.hid ke_13_3
        replace ke_13_3 := cell_regrown ke_13_3
        have Hke_13_4 := Lib.hid ke_13_4
        replace ke_13_4 := cell_regrown ke_13_4
        have Hke_13_5 := Lib.hid ke_13_5
        replace ke_13_5 := cell_regrown ke_13_5
        replace H := bind_hid H
        obtain ⟨t_18, qt_18, H⟩ := H
        have nt_18 : ∀ d os, Calls Try.prog 15 #[.agg #[.int .i64 t_11_id, .string t_11_town, .int .i64 t_11_kind_, .int .i64 t_11_first, .int .i64 t_11_last, .string t_11_lost]] (Go.Sort.grow (redrawn w_e_13 d) os) fun e w'' => e = .returned (.bool t_18) ∧ ∃ p : Regrown, w'' = Go.Sort.grow (redrawn w_e_13 p.d) p.os := fun d os => Calls.regrown_of (Go.Proofs.Ytgimcnpkngpmiaa.GiIsPostmark.C ((Go.Proofs.Ytgimcnpkngpmiaa.PPostmark.Postmark.mk t_11_id t_11_town t_11_kind_ t_11_first t_11_last t_11_lost))  _    qt_18)
        cases t_18 with
        | false =>
          replace H := let_hid H
          obtain ⟨t_19, ht_19, H⟩ := H
          obtain rfl : t_19 = true := ht_19.symm
          replace H := join_hid H
          replace H := ite_t H
          replace H := app_hid H
          refine wp_region_quiet_below (by kernel_rfl) (by kernel_rfl) ?_
          repeat (go_big_quiet_step (first | (go_at_call 15; exact nt_18 _ _)))
          refine wpQuiet_nil ?_
          intro Y6 hY6
          replace hY6 := below_class hY6
          clear nt_18
          replace ct_11_0__152 := Hct_11_0__152.out
          clear Hct_11_0__152
          replace ct_11_1__153 := Hct_11_1__153.out
          clear Hct_11_1__153
          replace ct_11_2__154 := Hct_11_2__154.out
          clear Hct_11_2__154
          replace ct_11_3__155 := Hct_11_3__155.out
          clear Hct_11_3__155
          replace ct_11_4__156 := Hct_11_4__156.out
          clear Hct_11_4__156
          replace ct_11_5__157 := Hct_11_5__157.out
          clear Hct_11_5__157
          replace ke_13_0 := Hke_13_0.out
          clear Hke_13_0
          replace ke_13_1 := Hke_13_1.out
          clear Hke_13_1
          replace ke_13_2 := Hke_13_2.out
          clear Hke_13_2
          replace ke_13_3 := Hke_13_3.out
          clear Hke_13_3
          replace ke_13_4 := Hke_13_4.out
          clear Hke_13_4
          replace ke_13_5 := Hke_13_5.out
          clear Hke_13_5
          have HBY6 := Lib.hid (Below.step HBw_e_13.out hY6)
          replace ct_11_0__152 := cell_below hY6 ct_11_0__152
          replace ct_11_1__153 := cell_below hY6 ct_11_1__153
          replace ct_11_2__154 := cell_below hY6 ct_11_2__154
          replace ct_11_3__155 := cell_below hY6 ct_11_3__155
          replace ct_11_4__156 := cell_below hY6 ct_11_4__156
          replace ct_11_5__157 := cell_below hY6 ct_11_5__157
          replace ke_13_0 := cell_below hY6 ke_13_0
          replace ke_13_1 := cell_below hY6 ke_13_1
          replace ke_13_2 := cell_below hY6 ke_13_2
          replace ke_13_3 := cell_below hY6 ke_13_3
          replace ke_13_4 := cell_below hY6 ke_13_4
          replace ke_13_5 := cell_below hY6 ke_13_5
          clear hY6
          replace H := ite_t H
          obtain rfl := ret_hid H
          go_wp2_with fail
          go_ret
          exact ⟨rfl, HBY6.out⟩
        | true =>
          replace H := let_hid H
          obtain ⟨t_19, ht_19, H⟩ := H
          obtain rfl : t_19 = false := ht_19.symm
          replace H := join_hid H
          replace H := ite_f H
          replace H := let_hid H
          obtain ⟨t_22, ht_22, H⟩ := H
          replace H := join_hid H
          cases t_22 with
          | false =>
            have nht_22 : ¬ (0 < k0) := by have := of_decide_eq_false ht_22; omega
            replace H := ite_f H
            replace H := app_hid H
            replace H := app_hid H
            refine wp_region_quiet_below (by kernel_rfl) (by kernel_rfl) ?_
            repeat (go_big_quiet_step (first | (go_at_call 15; exact nt_18 _ _)))
            refine wpQuiet_nil ?_
            intro Y6 hY6
            replace hY6 := below_class hY6
            clear nt_18
            replace ct_11_0__152 := Hct_11_0__152.out
            clear Hct_11_0__152
            replace ct_11_1__153 := Hct_11_1__153.out
            clear Hct_11_1__153
            replace ct_11_2__154 := Hct_11_2__154.out
            clear Hct_11_2__154
            replace ct_11_3__155 := Hct_11_3__155.out
            clear Hct_11_3__155
            replace ct_11_4__156 := Hct_11_4__156.out
            clear Hct_11_4__156
            replace ct_11_5__157 := Hct_11_5__157.out
            clear Hct_11_5__157
            replace ke_13_0 := Hke_13_0.out
            clear Hke_13_0
            replace ke_13_1 := Hke_13_1.out
            clear Hke_13_1
            replace ke_13_2 := Hke_13_2.out
            clear Hke_13_2
            replace ke_13_3 := Hke_13_3.out
            clear Hke_13_3
            replace ke_13_4 := Hke_13_4.out
            clear Hke_13_4
            replace ke_13_5 := Hke_13_5.out
            clear Hke_13_5
            have HBY6 := Lib.hid (Below.step HBw_e_13.out hY6)
            replace ct_11_0__152 := cell_below hY6 ct_11_0__152
            replace ct_11_1__153 := cell_below hY6 ct_11_1__153
            replace ct_11_2__154 := cell_below hY6 ct_11_2__154
            replace ct_11_3__155 := cell_below hY6 ct_11_3__155
            replace ct_11_4__156 := cell_below hY6 ct_11_4__156
            replace ct_11_5__157 := cell_below hY6 ct_11_5__157
            replace ke_13_0 := cell_below hY6 ke_13_0
            replace ke_13_1 := cell_below hY6 ke_13_1
            replace ke_13_2 := cell_below hY6 ke_13_2
            replace ke_13_3 := cell_below hY6 ke_13_3
            replace ke_13_4 := cell_below hY6 ke_13_4
            replace ke_13_5 := cell_below hY6 ke_13_5
            clear hY6
            replace H := ite_f H
            replace H := app_hid H
            go_wp2_with fail
            go_roundg m0
            case measure => omega
            case rel => exact ⟨k0 + 1, by omega, by go_num, H, HBY6⟩
          | true =>
            have nht_22 : 0 < k0 := by have := of_decide_eq_true ht_22; omega
            replace H := ite_t H
            replace H := bind_hid H
            obtain ⟨t_26, qt_26, H⟩ := H
            have nt_26 : ∀ d os, Calls Try.prog 47 #[.agg #[.int .i64 t_11_id, .string t_11_town, .int .i64 t_11_kind_, .int .i64 t_11_first, .int .i64 t_11_last, .string t_11_lost]] (Go.Sort.grow (redrawn w_e_13 d) os) fun e w'' => e = .returned (.int .i64 t_26) ∧ ∃ p : Regrown, w'' = Go.Sort.grow (redrawn w_e_13 p.d) p.os := fun d os => Calls.regrown_of (Go.Proofs.Ytgimcnpkngpmiaa.GiIdOfPostmark.C ((Go.Proofs.Ytgimcnpkngpmiaa.PPostmark.Postmark.mk t_11_id t_11_town t_11_kind_ t_11_first t_11_last t_11_lost))  _    qt_26)
            replace H := let_hid H
            obtain ⟨t_30, ht_30, H⟩ := H
            replace H := idx_hid H
            obtain ⟨nt_31, yt_31, et_31, lt_31, gt_31, H⟩ := H
            subst et_31
            obtain ⟨t_31_id, t_31_town, t_31_kind_, t_31_first, t_31_last, t_31_lost⟩ := yt_31
            replace H := unPostmark_hid H
            obtain ⟨ab_t_31, ao_t_31, zt_31, At_31, z_t_31, ct_31_0, ct_31_1, ct_31_2, ct_31_3, ct_31_4, ct_31_5⟩ := Go.Proofs.Ytgimcnpkngpmiaa.OPostmark.at_ M0.out lt_31
            obtain rfl := Option.some.inj (gt_31.out.symm.trans z_t_31)
            simp only [Option.some.injEq, Addr.mk.injEq] at At_31
            obtain ⟨rfl, rfl, _⟩ := At_31
            have ltt_31 := cell_lt ct_31_0
            replace ct_31_0 := cell_below HBw_e_13.out ct_31_0
            replace ct_31_1 := cell_below HBw_e_13.out ct_31_1
            replace ct_31_2 := cell_below HBw_e_13.out ct_31_2
            replace ct_31_3 := cell_below HBw_e_13.out ct_31_3
            replace ct_31_4 := cell_below HBw_e_13.out ct_31_4
            replace ct_31_5 := cell_below HBw_e_13.out ct_31_5
            clear z_t_31
            have b0t_31 : (0 : Int) ≤ (nt_31 : Int) := by omega
            have b1t_31 : (nt_31 : Int) < ((list.length : Nat) : Int) := by omega
            have b2t_31 : ((nt_31 : Int)).toNat = nt_31 := by omega
            have Hct_31_0 := Lib.hid ct_31_0
            replace ct_31_0 := cell_regrown ct_31_0
            have Hct_31_1 := Lib.hid ct_31_1
            replace ct_31_1 := cell_regrown ct_31_1
            have Hct_31_2 := Lib.hid ct_31_2
            replace ct_31_2 := cell_regrown ct_31_2
            have Hct_31_3 := Lib.hid ct_31_3
            replace ct_31_3 := cell_regrown ct_31_3
            have Hct_31_4 := Lib.hid ct_31_4
            replace ct_31_4 := cell_regrown ct_31_4
            have Hct_31_5 := Lib.hid ct_31_5
            replace ct_31_5 := cell_regrown ct_31_5
            replace H := bind_hid H
            obtain ⟨t_33, qt_33, H⟩ := H
            have nt_33 : ∀ d os, Calls Try.prog 47 #[.agg #[.int .i64 t_31_id, .string t_31_town, .int .i64 t_31_kind_, .int .i64 t_31_first, .int .i64 t_31_last, .string t_31_lost]] (Go.Sort.grow (redrawn w_e_13 d) os) fun e w'' => e = .returned (.int .i64 t_33) ∧ ∃ p : Regrown, w'' = Go.Sort.grow (redrawn w_e_13 p.d) p.os := fun d os => Calls.regrown_of (Go.Proofs.Ytgimcnpkngpmiaa.GiIdOfPostmark.C ((Go.Proofs.Ytgimcnpkngpmiaa.PPostmark.Postmark.mk t_31_id t_31_town t_31_kind_ t_31_first t_31_last t_31_lost))  _    qt_33)
            replace H := let_hid H
            obtain ⟨t_34, ht_34, H⟩ := H
            replace H := app_hid H
            replace H := app_hid H
            refine wp_region_quiet_below (by kernel_rfl) (by kernel_rfl) ?_
            repeat (go_big_quiet_step (first | (go_at_call 47; with_reducible exact nt_26 _ _) | (go_at_call 47; with_reducible exact nt_33 _ _) | (go_at_call 15; exact nt_18 _ _) | (go_at_call 47; exact nt_26 _ _) | (go_at_call 47; exact nt_33 _ _)))
            refine wpQuiet_nil ?_
            intro Y6 hY6
            replace hY6 := below_class hY6
            clear nt_18 nt_26 nt_33
            replace ct_11_0__152 := Hct_11_0__152.out
            clear Hct_11_0__152
            replace ct_11_1__153 := Hct_11_1__153.out
            clear Hct_11_1__153
            replace ct_11_2__154 := Hct_11_2__154.out
            clear Hct_11_2__154
            replace ct_11_3__155 := Hct_11_3__155.out
            clear Hct_11_3__155
            replace ct_11_4__156 := Hct_11_4__156.out
            clear Hct_11_4__156
            replace ct_11_5__157 := Hct_11_5__157.out
            clear Hct_11_5__157
            replace ke_13_0 := Hke_13_0.out
            clear Hke_13_0
            replace ke_13_1 := Hke_13_1.out
            clear Hke_13_1
            replace ke_13_2 := Hke_13_2.out
            clear Hke_13_2
            replace ke_13_3 := Hke_13_3.out
            clear Hke_13_3
            replace ke_13_4 := Hke_13_4.out
            clear Hke_13_4
            replace ke_13_5 := Hke_13_5.out
            clear Hke_13_5
            replace ct_31_0 := Hct_31_0.out
            clear Hct_31_0
            replace ct_31_1 := Hct_31_1.out
            clear Hct_31_1
            replace ct_31_2 := Hct_31_2.out
            clear Hct_31_2
            replace ct_31_3 := Hct_31_3.out
            clear Hct_31_3
            replace ct_31_4 := Hct_31_4.out
            clear Hct_31_4
            replace ct_31_5 := Hct_31_5.out
            clear Hct_31_5
            have HBY6 := Lib.hid (Below.step HBw_e_13.out hY6)
            replace ct_11_0__152 := cell_below hY6 ct_11_0__152
            replace ct_11_1__153 := cell_below hY6 ct_11_1__153
            replace ct_11_2__154 := cell_below hY6 ct_11_2__154
            replace ct_11_3__155 := cell_below hY6 ct_11_3__155
            replace ct_11_4__156 := cell_below hY6 ct_11_4__156
            replace ct_11_5__157 := cell_below hY6 ct_11_5__157
            replace ke_13_0 := cell_below hY6 ke_13_0
            replace ke_13_1 := cell_below hY6 ke_13_1
            replace ke_13_2 := cell_below hY6 ke_13_2
            replace ke_13_3 := cell_below hY6 ke_13_3
            replace ke_13_4 := cell_below hY6 ke_13_4
            replace ke_13_5 := cell_below hY6 ke_13_5
            replace ct_31_0 := cell_below hY6 ct_31_0
            replace ct_31_1 := cell_below hY6 ct_31_1
            replace ct_31_2 := cell_below hY6 ct_31_2
            replace ct_31_3 := cell_below hY6 ct_31_3
            replace ct_31_4 := cell_below hY6 ct_31_4
            replace ct_31_5 := cell_below hY6 ct_31_5
            clear hY6
            cases t_34 with
            | false =>
              replace H := ite_f H
              replace H := app_hid H
              go_wp2_with fail
              go_roundg m0
              case measure => omega
              case rel => exact ⟨k0 + 1, by omega, by go_num, H, HBY6⟩
            | true =>
              replace H := ite_t H
              obtain rfl := ret_hid H
              go_wp2_with fail
              go_ret
              exact ⟨rfl, HBY6.out⟩
  | true =>
    replace H := ite_t H
    obtain rfl := ret_hid H
    go_wp2_with fail
    go_ret
    exact ⟨rfl, HB.out⟩
end Go.Proofs.Ytgimcnpkngpmiaa.GiAreByKeyPostmarkIntiIsPostmarkiIdOfPostmark

/- loop.example/g01062/impl.ArePostmarks as a plain function, and the contract of the program's: where the plain one has an answer, the program has it. Conditions: slices read as lists. -/
namespace Go.Proofs.Ytgimcnpkngpmiaa.GiArePostmarks
set_option linter.unusedVariables false
set_option linter.unusedSimpArgs false
open Go.RowKit
open Go.Proofs.Ytgimcnpkngpmiaa.Rowed Go.Proofs.Ytgimcnpkngpmiaa.Turn Go.Proofs.Ytgimcnpkngpmiaa.Aid Go.Proofs.Ytgimcnpkngpmiaa.GoP Go.Proofs.Ytgimcnpkngpmiaa.GoM

def P (list : (List Go.Proofs.Ytgimcnpkngpmiaa.PPostmark.Postmark)) : Option (Bool) :=
  Option.bind (Go.Proofs.Ytgimcnpkngpmiaa.GiAreByKeyPostmarkIntiIsPostmarkiIdOfPostmark.P list 12) fun (t_2 : Bool) =>
  some t_2

set_option maxRecDepth 100000 in
set_option maxHeartbeats 2000000 in
theorem C (list : (List Go.Proofs.Ytgimcnpkngpmiaa.PPostmark.Postmark)) (A0 : Option Addr) (c0 : Nat)  (w : World) (M0 : Hid (Cells w 6 A0 list.length (Go.Proofs.Ytgimcnpkngpmiaa.PPostmark.flat list))) (N0 : Hid (list.length ≤ 9223372036854775807))  {r : Bool} (H : Hid (P list = some r)) :
    Calls Try.prog 19 #[.slice A0 list.length c0] w (Gives (.bool r) w) := by
  have HB := Lib.hid (Below.refl w.heap.size w)
  unfold P at H
  have N0o := N0.out
  go_enter Try.func19, Try.ntmps19
  replace H := bind_hid H
  obtain ⟨t_2, qt_2, H⟩ := H
  go_wp2_with fail
  go_at_call 46
  refine (Go.Proofs.Ytgimcnpkngpmiaa.GiAreByKeyPostmarkIntiIsPostmarkiIdOfPostmark.C (list) (12) A0 c0 _   (Lib.hid (Cells.below M0.out HB.out)) N0 qt_2).mono ?_
  rintro e_t_2 wt_2 ⟨rfl, bt_2⟩
  have HBwt_2 := Lib.hid (Below.step HB.out bt_2)
  clear bt_2
  obtain rfl := ret_hid H
  go_wp2_with fail
  go_ret
  exact ⟨rfl, HBwt_2.out⟩
end Go.Proofs.Ytgimcnpkngpmiaa.GiArePostmarks

/- Chapter 11: postmarks: the plain functions of the program and of the reference agree, and the laws answer true. (Q11List) No condition but those of each theorem. -/
namespace Go.Proofs.Ytgimcnpkngpmiaa.Q11List
set_option linter.unusedVariables false
set_option linter.unusedSimpArgs false
open Go.RowKit
open Go.Proofs.Ytgimcnpkngpmiaa.GoP Go.Proofs.Ytgimcnpkngpmiaa.PlainStamp Go.Proofs.Ytgimcnpkngpmiaa.QBase Go.Proofs.Ytgimcnpkngpmiaa.Q11Mark Go.Proofs.Ytgimcnpkngpmiaa.QUp Go.Proofs.Ytgimcnpkngpmiaa.QLoop Go.Proofs.Ytgimcnpkngpmiaa.PPostmark

def okPms (l : List Postmark) : Bool := upL 12 okPm Postmark.id l
theorem arePostmarks_eq (l : List Postmark) (hf : ∀ s ∈ l, s.fits) : GiArePostmarks.P l = some (okPms l) := by
  simp only [GiArePostmarks.P, GiAreByKeyPostmarkIntiIsPostmarkiIdOfPostmark.P, letK, iteK_if]
  by_cases hl : l.length ≤ 12
  · rw [if_neg (by simp; omega), up_loop (ok := okPm) (id := Postmark.id) (no := false)]
    · unfold okPms upL; cases upTo okPm Postmark.id l l.length <;> simp [hl, GiAreByKeyPostmarkIntiIsPostmarkiIdOfPostmark.e0]
    · intro k nx s hs
      have hi : idx l (k : Int) = some s := by rw [idx_nat, hs]
      have hk : k < l.length := (List.getElem?_eq_some_iff.1 hs).1
      have hm := isPostmark_eq s (fits_sz (hf s (List.mem_of_getElem? hs))).2
      simp only [GiAreByKeyPostmarkIntiIsPostmarkiIdOfPostmark.l0, hi, Option.bind_some, unPostmark, GiIdOfPostmark.P, letK, joinK, appK, iteK_if]
      rw [hm]
      refine ⟨fun h => by simp [h], fun h => ⟨fun h0 => by subst h0; simp [h], fun h0 r hr => ?_⟩⟩
      rw [idx_pred h0 (by omega) hr]
      have hk0 : (0 : Int) < (k : Int) := by omega
      have hk1 : ¬ k = 0 := by omega
      exact ⟨fun hlt => by (have hc : ¬ s.id ≤ r.id := by omega); simp [h, hk0, hk1, hc], fun hge => by simp [h, hk0, hk1, hge]⟩
  · rw [if_pos (by simp; omega)]; unfold okPms upL; simp [hl]
theorem l11Good_eq (fuel : Nat) (hfu : 100 ≤ fuel) (l : List Postmark) (hf : ∀ s ∈ l, s.fits) (hl : l.length ≤ 9223372036854775807) : GsL11Good.P fuel l = some (okPms l) := by
  simp only [GsL11Good.P]
  rw [up_loop (ok := okPm) (id := Postmark.id) (no := false)]
  · unfold okPms upL; cases upTo okPm Postmark.id l l.length <;> simp [GsL11Good.e0, letK]; omega
  · intro k nx s hs
    have hi : idx l (k : Int) = some s := by rw [idx_nat, hs]
    have hk : k < l.length := (List.getElem?_eq_some_iff.1 hs).1
    have hm := l11One_eq s (hf s (List.mem_of_getElem? hs)) fuel hfu
    simp only [GsL11Good.l0, hi, Option.bind_some, unPostmark, letK, joinK, appK, iteK_if]
    rw [hm]
    refine ⟨fun h => by simp [h], fun h => ⟨fun h0 => by subst h0; simp [h], fun h0 r hr => ?_⟩⟩
    rw [idx_pred h0 (by omega) hr]
    have hk0 : (0 : Int) < (k : Int) := by omega
    have hk1 : ¬ k = 0 := by omega
    exact ⟨fun hlt => by (have hc : ¬ s.id ≤ r.id := by omega); simp [h, hk0, hk1, hc], fun hge => by simp [h, hk0, hk1, hge]⟩
theorem pms_mem {l : List Postmark} (h : okPms l = true) {x : Postmark} (hx : x ∈ l) : okPm x = true := upL_mem h hx
end Go.Proofs.Ytgimcnpkngpmiaa.Q11List

/- loop.example/g01062/spec.l11Shown as a plain function, and the contract of the program's: where the plain one has an answer, the program has it. Conditions: slices read as lists. -/
namespace Go.Proofs.Ytgimcnpkngpmiaa.GsL11Shown
set_option linter.unusedVariables false
set_option linter.unusedSimpArgs false
open Go.RowKit
open Go.Proofs.Ytgimcnpkngpmiaa.Rowed Go.Proofs.Ytgimcnpkngpmiaa.Turn Go.Proofs.Ytgimcnpkngpmiaa.Aid Go.Proofs.Ytgimcnpkngpmiaa.GoP Go.Proofs.Ytgimcnpkngpmiaa.GoM

def l0 (p_town : ByteArray) (p_lost : ByteArray) (s : ByteArray × Int) (nx0 bk0 : ByteArray × Int → Option (ByteArray)) : Option (ByteArray) :=
  unp2 s fun s_3l0 i_4l0 =>
  letK (decide (i_4l0 < (p_town.size : Int))) fun (t_8 : Bool) =>
  iteK t_8
  (Option.bind (idx p_lost.toList i_4l0) fun (yt_12 : UInt8) =>
  letK ((yt_12.toNat : Int)) fun (t_12 : Int) =>
  letK (t_12 == 120) fun (t_13 : Bool) =>
  iteK t_13
  (guardK (s_3l0.size + (⟨#[63]⟩ : ByteArray).size ≤ maxLen) <|
  letK (s_3l0 ++ (⟨#[63]⟩ : ByteArray)) fun (t_15 : ByteArray) =>
  letK (IntKind.i64.wrap (i_4l0 + 1)) fun (t_27 : Int) =>
  appK nx0 (t_15, t_27))
  (letK (IntKind.i64.wrap (i_4l0 + 1)) fun (t_22 : Int) =>
  guardK ((0 : Int) ≤ i_4l0 ∧ (i_4l0 : Int) ≤ t_22 ∧ (t_22 : Int) ≤ (p_town.size : Int)) <|
  letK (ByteArray.extract p_town (Int.toNat i_4l0) (Int.toNat t_22)) fun (t_23 : ByteArray) =>
  guardK (s_3l0.size + t_23.size ≤ maxLen) <|
  letK (s_3l0 ++ t_23) fun (t_24 : ByteArray) =>
  letK (IntKind.i64.wrap (i_4l0 + 1)) fun (t_27 : Int) =>
  appK nx0 (t_24, t_27)))
  (appK bk0 (s_3l0, i_4l0))

def e0  (s : ByteArray × Int) : Option (ByteArray) :=
  unp2 s fun s_3l0 i_4l0 =>
  some s_3l0

def P (fuel : Nat) (p : Go.Proofs.Ytgimcnpkngpmiaa.PPostmark.Postmark) : Option (ByteArray) :=
  unPostmark p fun (p_id : Int) (p_town : ByteArray) (p_kind_ : Int) (p_first : Int) (p_last : Int) (p_lost : ByteArray) =>
  loopK (l0 p_town p_lost) fuel ((⟨#[]⟩ : ByteArray), 0) (e0 )

set_option maxRecDepth 100000 in
set_option maxHeartbeats 2000000 in
theorem C (fuel : Nat) (p : Go.Proofs.Ytgimcnpkngpmiaa.PPostmark.Postmark)   (w : World)   {r : ByteArray} (H : Hid (P fuel p = some r)) :
    Calls Try.prog 49 #[p.val] w (Gives (.string r) w) := by
  have HB := Lib.hid (Below.refl w.heap.size w)
  unfold P at H
  obtain ⟨p_id, p_town, p_kind_, p_first, p_last, p_lost⟩ := p
  replace H := unPostmark_hid H
  unfold Go.Proofs.Ytgimcnpkngpmiaa.PPostmark.Postmark.val
  go_enter Try.func49, Try.ntmps49
  obtain ⟨w_p_0, hw_p_0⟩ : ∃ x, w.alloc (.cells #[.int .i64 p_id, .string p_town, .int .i64 p_kind_, .int .i64 p_first, .int .i64 p_last, .string p_lost] 26) = x := ⟨_, rfl⟩
  have bw_p_0 : Below w.heap.size w w_p_0 := by rw [← hw_p_0]; exact (Below.refl _ _).alloc (Nat.le_refl _) _
  have HBw_p_0 := Lib.hid (Below.step HB.out bw_p_0)
  clear bw_p_0
  have kp_0_0 : w_p_0.cell? ⟨w.heap.size, 0, none⟩ = some (.int .i64 p_id) := by rw [← hw_p_0]; exact box_new _ _ _ 0 _ rfl
  have kp_0_1 : w_p_0.cell? ⟨w.heap.size, 1, none⟩ = some (.string p_town) := by rw [← hw_p_0]; exact box_new _ _ _ 1 _ rfl
  have kp_0_2 : w_p_0.cell? ⟨w.heap.size, 2, none⟩ = some (.int .i64 p_kind_) := by rw [← hw_p_0]; exact box_new _ _ _ 2 _ rfl
  have kp_0_3 : w_p_0.cell? ⟨w.heap.size, 3, none⟩ = some (.int .i64 p_first) := by rw [← hw_p_0]; exact box_new _ _ _ 3 _ rfl
  have kp_0_4 : w_p_0.cell? ⟨w.heap.size, 4, none⟩ = some (.int .i64 p_last) := by rw [← hw_p_0]; exact box_new _ _ _ 4 _ rfl
  have kp_0_5 : w_p_0.cell? ⟨w.heap.size, 5, none⟩ = some (.string p_lost) := by rw [← hw_p_0]; exact box_new _ _ _ 5 _ rfl
  go_wp2_with fail
  go_loopg [3, 4] (fuel) (fun m_ v3_ v4_ wr => ∃ (s_3l0 : ByteArray) (i_4l0 : Int), v3_ = .string s_3l0 ∧ v4_ = .int .i64 i_4l0 ∧ Hid (loopK (l0 p_town p_lost) m_ (s_3l0, i_4l0) (e0 ) = some r) ∧ Hid (Below w.heap.size w wr) ∧ wr.cell? ⟨w.heap.size, 0, none⟩ = some (.int .i64 p_id) ∧ wr.cell? ⟨w.heap.size, 1, none⟩ = some (.string p_town) ∧ wr.cell? ⟨w.heap.size, 2, none⟩ = some (.int .i64 p_kind_) ∧ wr.cell? ⟨w.heap.size, 3, none⟩ = some (.int .i64 p_first) ∧ wr.cell? ⟨w.heap.size, 4, none⟩ = some (.int .i64 p_last) ∧ wr.cell? ⟨w.heap.size, 5, none⟩ = some (.string p_lost))
  case atStart => exact ⟨_, _, rfl, rfl, H, HBw_p_0, kp_0_0, kp_0_1, kp_0_2, kp_0_3, kp_0_4, kp_0_5⟩
  case round =>
    obtain ⟨s_3l0, i_4l0, rfl, rfl, H, HBwr0, kp_0_0, kp_0_1, kp_0_2, kp_0_3, kp_0_4, kp_0_5⟩ := hrel
    rename World => wr0
    cases gk with
    | zero => exact (loop_zero H).elim
    | succ m0 =>
      replace H := loop_succ H
      unfold l0 at H
      replace H := unp2_hid H
      replace H := let_hid H
      obtain ⟨t_8, ht_8, H⟩ := H
      cases t_8 with
      | false =>
        replace H := ite_f H
        replace H := app_hid H
        unfold e0 at H
        replace H := unp2_hid H
        obtain rfl := ret_hid H
        go_wp2_with fail
        go_ret
        exact ⟨rfl, HBwr0.out⟩
      | true =>
        replace H := ite_t H
        replace H := idx_hid H
        obtain ⟨nt_12, yt_12, et_12, lt_12, gt_12, H⟩ := H
        subst et_12
        have nc_164 : nt_12 < p_town.size := by have := of_decide_eq_true ht_8; omega
        have rt_12 := byte_rule lt_12 gt_12.out
        have b0t_12 : (0 : Int) ≤ (nt_12 : Int) := by omega
        have b1t_12 : (nt_12 : Int) < (p_lost.size : Int) := by have := size_list p_lost; omega
        have b2t_12 : ((nt_12 : Int)).toNat = nt_12 := by omega
        have b3t_12 : nt_12 < p_lost.size := by have := size_list p_lost; omega
        replace H := let_hid H
        obtain ⟨t_12, ht_12, H⟩ := H
        replace H := let_hid H
        obtain ⟨t_13, ht_13, H⟩ := H
        cases t_13 with
        | false =>
          replace H := ite_f H
          replace H := let_hid H
          obtain ⟨t_22, ht_22, H⟩ := H
          replace H := guard_hid H
          obtain ⟨hl_t_23, H⟩ := H
          replace H := let_hid H
          obtain ⟨t_23, ht_23, H⟩ := H
          have ct_23 := slice_both (P := Try.prog) (t := 9) (k := .i64) (k' := .i64) Try.underlying9 ht_23 hl_t_23
          clear hl_t_23
          have hht_23 := Lib.hid ht_23
          clear ht_23
          replace H := guard_hid H
          obtain ⟨hl_t_24, H⟩ := H
          replace H := let_hid H
          obtain ⟨t_24, ht_24, H⟩ := H
          have ct_24 := cat_rule (P := Try.prog) ht_24 hl_t_24
          clear hl_t_24
          have hht_24 := Lib.hid ht_24
          clear ht_24
          replace H := let_hid H
          obtain ⟨t_27, ht_27, H⟩ := H
          obtain rfl := ht_22.symm.trans ht_27
          replace H := app_hid H
          go_wp2_with fail
          go_roundg m0
          case measure => omega
          case rel => exact ⟨_, _, rfl, rfl, H, HBwr0, kp_0_0, kp_0_1, kp_0_2, kp_0_3, kp_0_4, kp_0_5⟩
        | true =>
          replace H := ite_t H
          replace H := guard_hid H
          obtain ⟨hl_t_15, H⟩ := H
          replace H := let_hid H
          obtain ⟨t_15, ht_15, H⟩ := H
          have ct_15 := cat_rule (P := Try.prog) ht_15 hl_t_15
          clear hl_t_15
          have hht_15 := Lib.hid ht_15
          clear ht_15
          replace H := let_hid H
          obtain ⟨t_27, ht_27, H⟩ := H
          replace H := app_hid H
          go_wp2_with fail
          go_roundg m0
          case measure => omega
          case rel => exact ⟨_, _, rfl, rfl, H, HBwr0, kp_0_0, kp_0_1, kp_0_2, kp_0_3, kp_0_4, kp_0_5⟩
end Go.Proofs.Ytgimcnpkngpmiaa.GsL11Shown

/- Rows of bytes that a conversion from a string lays (the row bears a mark behind its last cell), in words like those of other rows of one's own. No condition. -/
namespace Go.Proofs.Ytgimcnpkngpmiaa.GoB
set_option linter.unusedVariables false
set_option linter.unusedSimpArgs false
open Go.RowKit
open Go.Proofs.Ytgimcnpkngpmiaa.Rowed Go.Proofs.Ytgimcnpkngpmiaa.Turn Go.Proofs.Ytgimcnpkngpmiaa.GoM

def u8s (l : List Int) : List Value := l.map (fun z => Value.int .u8 z)
theorem u8s_len (l : List Int) : (u8s l).length = l.length := by simp [u8s]
/-- a row of one's own that no mark covers -/
def ownsB (w : World) (base : Nat) (e : TypeId) (size : Nat) (v : Value) (n : Nat) (xs : List Value) : Prop :=
  xs.length = n * size ∧
  ((v = .slice none 0 0 ∧ n = 0) ∨
   ∃ g cap cur, v = .slice (some ⟨g, 0, none⟩) n cap ∧ base ≤ g ∧ (∃ fz, w.heap[g]? = some (.cells cur e fz) ∧ cur.size ≤ fz.1) ∧ n ≤ cap ∧ n ≤ 9223372036854775807 ∧ cur.size = cap * size ∧ cur.toList.take (n * size) = xs)
section
variable {w : World} {base : Nat} {e : TypeId} {size : Nat} {v : Value} {n : Nat} {xs : List Value}
theorem ownsB.lt (h : ownsB w base e size v n xs) : ∀ k, v.ownBlock = some k → base ≤ k ∧ k < w.heap.size := by
  intro k hk
  rcases h.2 with ⟨rfl, _⟩ | ⟨g, cap, cur, rfl, hb, ⟨fz, hg, _⟩, _⟩
  · simp [Value.ownBlock] at hk
  · simp [Value.ownBlock] at hk
    subst hk
    exact ⟨hb, (Array.getElem?_eq_some_iff.1 hg).1⟩
theorem ownsB.kept {w' : World} {row : Option Nat} (h : ownsB w base e size v n xs) (hg : w.grownBy w' row) (hne : v.ownBlock = none ∨ v.ownBlock ≠ row) : ownsB w' base e size v n xs := by
  refine ⟨h.1, ?_⟩
  rcases h.2 with hn | ⟨g, cap, cur, rfl, hb, ⟨fz, hgg, hz⟩, rest⟩
  · exact .inl hn
  · refine .inr ⟨g, cap, cur, rfl, hb, ⟨fz, ?_, hz⟩, rest⟩
    rw [hg.block g (Array.getElem?_eq_some_iff.1 hgg).1 (by simpa [Value.ownBlock] using hne)]
    exact hgg
theorem ownsB.cells (h : ownsB w base e size v n xs) {g : Nat} (hg : v.ownBlock = some g) : ∀ j u, xs[j]? = some u → w.cell? ((⟨g, 0, none⟩ : Addr).add j) = some u := by
  intro j u hu
  rcases h.2 with ⟨rfl, _⟩ | ⟨g', cap, cur, rfl, _, ⟨fz, hgg, _⟩, _, _, _, htake⟩
  · simp [Value.ownBlock] at hg
  · simp [Value.ownBlock] at hg
    subst hg
    rw [add_flat, Nat.zero_add, cell_of_row w g' j cur e fz hgg]
    rw [← htake, List.getElem?_take] at hu
    split at hu
    · simpa using hu
    · cases hu
theorem ownsB.frozenAt {g cap : Nat} (h : ownsB w base e size (.slice (some ⟨g, 0, none⟩) n cap) n xs) (j : Nat) (hj : j < n * size) : w.frozen? ⟨g, j, none⟩ = false := by
  rcases h.2 with ⟨h', _⟩ | ⟨g', cap', cur, h', _, ⟨fz, hg, hz⟩, hnc, _, hcs, _⟩
  · simp at h'
  · simp only [Value.slice.injEq, Option.some.injEq, Addr.mk.injEq, and_true, true_and] at h'
    obtain ⟨rfl, rfl⟩ := h'
    have : n * size ≤ cap * size := Nat.mul_le_mul_right size hnc
    obtain ⟨lo, hi⟩ := fz
    unfold World.frozen?
    rw [hg]
    simp only at hz ⊢
    simp
    omega
theorem ownsB.stored {g cap : Nat} (h : ownsB w base e size (.slice (some ⟨g, 0, none⟩) n cap) n xs) (j : Nat) (u : Value) :
    ownsB (w.setCell ⟨g, j, none⟩ u) base e size (.slice (some ⟨g, 0, none⟩) n cap) n (xs.set j u) ∧ w.grownBy (w.setCell ⟨g, j, none⟩ u) (some g) := by
  rcases h.2 with ⟨h', _⟩ | ⟨g', cap', cur, h', hb, ⟨fz, hg, hz⟩, hnc, hcm, hcs, htake⟩
  · simp at h'
  · simp only [Value.slice.injEq, Option.some.injEq, Addr.mk.injEq, and_true, true_and] at h'
    obtain ⟨rfl, rfl⟩ := h'
    refine ⟨⟨by simpa using h.1, .inr ⟨g, cap, cur.setIfInBounds j u, rfl, hb, ⟨fz, ?_, by simpa using hz⟩, hnc, hcm, by simpa using hcs, ?_⟩⟩,
      ⟨rfl, rfl, rfl, by simp, fun k _ hk => heap_setCell_other w ⟨g, j, none⟩ k u (fun e => hk (by simp [e]))⟩⟩
    · show (w.setCell ⟨g, j, none⟩ u).heap[g]? = _
      have hl := (Array.getElem?_eq_some_iff.1 hg).1
      simp [World.setCell, Array.getElem?_modify, hg]
    · rw [Array.toList_setIfInBounds, ← htake, List.take_set]
end
theorem own_below {w w' : World} {base n size : Nat} {v : Value} {e : TypeId} {xs : List Value} (h : ownsB w base e size v n xs) (hb : Below w.heap.size w w') : ownsB w' base e size v n xs :=
  h.kept (Aid.grown_of hb) (by cases v.ownBlock <;> simp)
theorem own_lt {w : World} {b T K n m c : Nat} {A : Option Addr} {xs : List Value} (h : ownsB w b T K (.slice A m c) n xs) (a : Addr) (ha : A = some a) : b ≤ a.block ∧ a.block < w.heap.size := by
  subst ha
  exact h.lt a.block rfl
theorem apart_fresh {w : World} {b T K n m c : Nat} {A : Option Addr} {xs : List Value} (h : ownsB w b T K (.slice A m c) n xs) : Apart (some ⟨w.heap.size, 0, none⟩) A := by
  intro a a' ha ha' e
  have := (own_lt h a' ha').2
  injection ha with ha
  subst ha
  simp at e
  omega
theorem apart_call {w w1 : World} {b T K n m c T' K' n' m' c' : Nat} {A B : Option Addr} {xs ys : List Value} (h1 : w1.ownsRow w.heap.size T K (.slice A m c) n xs) (h : ownsB w b T' K' (.slice B m' c') n' ys) : Apart A B := by
  intro a a' ha ha' e
  have := (own_lt h a' ha').2
  have := (GoM.own_lt h1 a ha).1
  omega
theorem own_other {w w' : World} {b T K n m c n' c' : Nat} {A B : Option Addr} {ys : List Value} (h : ownsB w b T K (.slice B m c) n ys) (hg : w.grownBy w' (Value.slice A n' c').ownBlock) (hD : Apart A B) : ownsB w' b T K (.slice B m c) n ys := by
  refine h.kept hg ?_
  cases B with
  | none => exact .inl rfl
  | some y =>
    refine .inr ?_
    cases A with
    | none => simp [Value.ownBlock]
    | some x => simp only [Value.ownBlock, ne_eq, Option.some.injEq]; exact fun e => hD x y rfl rfl e.symm
theorem apart_old {wr : World} {b T K n m c g : Nat} {A : Option Addr} {xs : List Value} (h : ownsB wr b T K (.slice A m c) n xs) (hg : g < b) : Apart A (some ⟨g, 0, none⟩) := by
  intro a a' ha ha' e
  have := (own_lt h a ha).1
  injection ha' with ha'
  subst ha'
  simp at e
  omega
theorem own_len {w : World} {b T K n m c : Nat} {A : Option Addr} {xs : List Value} (h : m = n) (hO : ownsB w b T K (.slice A n c) n xs) : ownsB w b T K (.slice A m c) m xs := by subst h; exact hO
theorem own_max {w : World} {b T K n c : Nat} {A : Option Addr} {xs : List Value} (h : ownsB w b T K (.slice A n c) n xs) : n ≤ 9223372036854775807 := by
  rcases h.2 with ⟨_, h0⟩ | ⟨g, cap, cur, hv, _, _, h1, h2, _⟩
  · omega
  · exact h2
theorem own_some {w : World} {b T K n c : Nat} {A : Option Addr} {xs : List Value} (h : ownsB w b T K (.slice A n c) n xs) (hn : 0 < n) : ∃ g, A = some ⟨g, 0, none⟩ := by
  rcases h.2 with ⟨_, h0⟩ | ⟨g, cap, cur, hv, _⟩
  · omega
  · injection hv with e1; exact ⟨g, e1⟩
theorem own_stores {b T K n c g : Nat} (ps : List (Nat × Value)) : ∀ {w : World} {xs : List Value}, ownsB w b T K (.slice (some ⟨g, 0, none⟩) n c) n xs →
    ownsB (ps.foldl (fun w p => w.setCell ⟨g, p.1, none⟩ p.2) w) b T K (.slice (some ⟨g, 0, none⟩) n c) n (ps.foldl (fun xs p => xs.set p.1 p.2) xs) ∧ w.grownBy (ps.foldl (fun w p => w.setCell ⟨g, p.1, none⟩ p.2) w) (some g) := by
  induction ps with
  | nil => intro w xs h; exact ⟨h, Aid.grown_refl _ _⟩
  | cons p ps ih =>
    intro w xs h
    have h1 := h.stored p.1 p.2
    have h2 := ih h1.1
    exact ⟨h2.1, Aid.grown_tr h1.2 h2.2⟩
theorem own_cells {w : World} {base n c size : Nat} {A : Option Addr} {e : TypeId} {xs : List Value} (h : ownsB w base e size (.slice A n c) n xs) : Cells w size A n xs := by
  rcases h.2 with ⟨hv, h0⟩ | ⟨g, cap, cur, hv, _⟩
  · subst h0
    have := h.1
    exact ⟨this, fun hn => by rw [Nat.zero_mul] at this; omega⟩
  · injection hv with e1 e2 e3
    subst e1
    exact ⟨h.1, fun _ => ⟨_, rfl, h.cells rfl⟩⟩
theorem u8_at {w : World} {A : Option Addr} {n k : Nat} {l : List Int} (h : Cells w 1 A n (u8s l)) (hk : k < n) : ∃ (b o : Nat) (x : Int), A = some ⟨b, o, none⟩ ∧ l[k]? = some x ∧ w.cell? ⟨b, o + k, none⟩ = some (.int .u8 x) := by
  have hl : k < l.length := by have := h.1; unfold u8s at this; rw [List.length_map] at this; omega
  obtain ⟨⟨b, o, sp⟩, e, hc⟩ := h.2 (by unfold u8s; rw [List.length_map]; omega)
  have h0 := hc 0 (.int .u8 l[0]) (by unfold u8s; rw [List.getElem?_map, List.getElem?_eq_getElem (show 0 < l.length by omega)]; rfl)
  obtain rfl : sp = none := cell_spot (b := b) (o := o) h0
  have hs := List.getElem?_eq_getElem hl
  have := hc k (.int .u8 l[k]) (by unfold u8s; rw [List.getElem?_map, hs]; rfl)
  rw [add_flat] at this
  exact ⟨b, o, l[k], e, hs, this⟩
/-- []byte(s) -/
theorem conv_new {P : Program} (base : Nat) (w : World) (src dst e : TypeId) (s : ByteArray) (hs : P.underlying src = some .string) (hd : P.underlying dst = some (.slice e)) (he : P.underlying e = some (.int .u8)) (hb : base ≤ w.heap.size) (hn : s.size ≤ 9223372036854775807) {l : List Int} (hl : s.toList.map (fun b => (b.toNat : Int)) = l) :
    ∃ w' c, (convert src dst (.string s)).run P w = .ok (.slice (some ⟨w.heap.size, 0, none⟩) l.length c) w' ∧ ownsB w' base e 1 (.slice (some ⟨w.heap.size, 0, none⟩) l.length c) l.length (u8s l) ∧ Below w.heap.size w w' := by
  subst hl
  have hsz : (s.toList.map (fun b => (b.toNat : Int))).length = s.size := by rw [List.length_map, size_list]
  rw [hsz]
  refine ⟨_, _, Lib.run_convert_string_bytes w src dst e s hs hd he, ⟨?_, .inr ⟨w.heap.size, _, Lib.bytesCells w e s, rfl, hb, ⟨_, Lib.bytesWorld_at_new w e s, Nat.le_refl _⟩, grownCap_ge _ _ _ _, hn, ?_, ?_⟩⟩, ?_⟩
  · rw [u8s_len, hsz, Nat.mul_one]
  · have := grownCap_ge w s.size 0 e
    have h2 : s.data.size = s.size := rfl
    simp only [Lib.bytesCells, Array.size_append, Array.size_map, Array.size_replicate, Nat.mul_one, h2]
    omega
  · rw [Nat.mul_one]
    have h2 : s.data.toList.length = s.size := rfl
    simp only [Lib.bytesCells, Array.toList_append, Array.toList_map, u8s, List.map_map]
    rw [List.take_append_of_le_length (by rw [List.length_map, h2]; exact Nat.le_refl _), List.take_of_length_le (by rw [List.length_map, h2]; exact Nat.le_refl _), Lib.toList_data]
    rfl
  · exact ⟨rfl, rfl, rfl, by rw [Lib.bytesWorld_size]; omega, fun k hk => Lib.bytesWorld_at_old w e s k hk⟩
/-- string(b) -/
def strK (l : List Int) : ByteArray := ⟨(l.map (fun z => UInt8.ofNat z.toNat)).toArray⟩
theorem fold_push (l : List Int) : ∀ r : ByteArray, l.foldl (fun r n => r.push (UInt8.ofNat n.toNat)) r = ⟨r.data ++ (l.map (fun z => UInt8.ofNat z.toNat)).toArray⟩ := by
  induction l with
  | nil => intro r; simp
  | cons x l ih => intro r; rw [List.foldl_cons, ih]; simp [ByteArray.push]
theorem conv_back {P : Program} {w : World} {src dst e : TypeId} {b n c : Nat} {A : Option Addr} {l : List Int} {s : ByteArray} (hs : P.underlying src = some (.slice e)) (he : P.underlying e = some (.int .u8)) (hd : P.underlying dst = some .string)
    (h : ownsB w b e 1 (.slice A n c) n (u8s l)) (hl : strK l = s) : (convert src dst (.slice A n c)).run P w = .ok (.string s) w := by
  subst hl
  have hn : l.length = n := by have := h.1; rw [u8s_len, Nat.mul_one] at this; exact this
  rcases h.2 with ⟨hv, h0⟩ | ⟨g, cap, cur, hv, _⟩
  · injection hv with e1 e2 e3
    subst e1 e2 e3
    have : l = [] := List.length_eq_zero_iff.1 hn
    subst this
    rw [run_convert_bytes_string w src dst e _ 0 0 hs he hd]
    simp [Conv.bytesToString, strK]
    rfl
  · injection hv with e1 e2 e3
    subst e1 e3
    rw [run_convert_bytes_string w src dst e _ n c hs he hd]
    have hload := run_loadCells_list (P := P) w ⟨g, 0, none⟩ (l.map (Value.int .u8)) (fun j v hj => h.cells rfl j v hj)
    rw [List.length_map, hn] at hload
    rw [run_bytesToString w ⟨g, 0, none⟩ n c l hload, fold_push]
    have he0 : ByteArray.empty.data = #[] := rfl
    rw [he0, Array.empty_append]; rfl
end Go.Proofs.Ytgimcnpkngpmiaa.GoB

/- The contracts of the laws' helpers on slices of ints: toIntS, eqIntS, markIntS, heldIntS. Condition: the slice reads as a list of ints. -/
namespace Go.Proofs.Ytgimcnpkngpmiaa.HelpInt
set_option linter.unusedVariables false
open Go.RowKit
open Go.Proofs.Ytgimcnpkngpmiaa.Rowed

/-- ints as values -/
def iv (l : List Int) : List Value := l.map (Value.int .i64)
theorem iv_len (l : List Int) : (iv l).length = l.length := by simp [iv]
theorem iv_at (l : List Int) (k : Nat) : (iv l)[k]? = (l[k]?).map (Value.int .i64) := by simp [iv]
/-- the slice 'A, n' reads as the ints l -/
abbrev Ints (w : World) (A : Option Addr) (n : Nat) (l : List Int) : Prop := Cells w 1 A n (iv l)
theorem add_none (b o n : Nat) : (⟨b, o, none⟩ : Addr).add n = ⟨b, o + n, none⟩ := by
  unfold Addr.add; split
  · rename_i h; subst h; rfl
  · rfl
theorem Ints.at_ {w : World} {A : Option Addr} {n k : Nat} {l : List Int} (h : Ints w A n l) (hk : k < n) : ∃ (b o : Nat) (x : Int), A = some ⟨b, o, none⟩ ∧ l[k]? = some x ∧ w.cell? ⟨b, o + k, none⟩ = some (.int .i64 x) := by
  have hl : k < l.length := by have := h.1; rw [iv_len] at this; omega
  obtain ⟨⟨b, o, sp⟩, e, hc⟩ := h.2 (by rw [iv_len]; omega)
  have h0 := hc 0 _ (by rw [iv_at, List.getElem?_eq_getElem (show 0 < l.length by omega)]; rfl)
  obtain rfl : sp = none := cell_spot (b := b) (o := o) h0
  have hs := List.getElem?_eq_getElem hl
  have := hc k (.int .i64 l[k]) (by rw [iv_at, hs]; rfl)
  rw [add_none] at this
  exact ⟨b, o, l[k], e, hs, this⟩








end Go.Proofs.Ytgimcnpkngpmiaa.HelpInt

/- loop.example/g01062/impl.shownBy as a plain function, and the contract of the program's: where the plain one has an answer, the program has it. Conditions: slices read as lists. -/
namespace Go.Proofs.Ytgimcnpkngpmiaa.GiLoShownBy
set_option linter.unusedVariables false
set_option linter.unusedSimpArgs false
open Go.RowKit
open Go.Proofs.Ytgimcnpkngpmiaa.Rowed Go.Proofs.Ytgimcnpkngpmiaa.Turn Go.Proofs.Ytgimcnpkngpmiaa.Aid Go.Proofs.Ytgimcnpkngpmiaa.GoP Go.Proofs.Ytgimcnpkngpmiaa.GoM Go.Proofs.Ytgimcnpkngpmiaa.GoB

def l0 (p_lost : ByteArray) (k0 : Nat) (s : (List Int)) (nx0 bk0 : (List Int) → Option (ByteArray)) : Option (ByteArray) :=
  letK s fun shown_3l0 =>
  Option.bind (idx p_lost.toList (k0 : Int)) fun (yt_15 : UInt8) =>
  letK ((yt_15.toNat : Int)) fun (t_15 : Int) =>
  letK (t_15 == 120) fun (t_16 : Bool) =>
  iteK t_16
  (Option.bind (idx shown_3l0 (k0 : Int)) fun (yt_19 : Int) =>
  letK (shown_3l0.set k0 63) fun (l20_20 : (List Int)) =>
  appK nx0 (l20_20))
  (appK nx0 (shown_3l0))

def e0  (s : (List Int)) : Option (ByteArray) :=
  letK s fun shown_3l0 =>
  letK (Go.Proofs.Ytgimcnpkngpmiaa.GoB.strK shown_3l0) fun (t_24 : ByteArray) =>
  some t_24

def P (p : Go.Proofs.Ytgimcnpkngpmiaa.PPostmark.Postmark) : Option (ByteArray) :=
  unPostmark p fun (p_id : Int) (p_town : ByteArray) (p_kind_ : Int) (p_first : Int) (p_last : Int) (p_lost : ByteArray) =>
  guardK (p_town.size ≤ 1099511627776) <|
  letK (p_town.toList.map (fun b_ => (b_.toNat : Int))) fun (t_4 : (List Int)) =>
  cntK (l0 p_lost) (t_4.length) 0 (t_4) (e0 )

set_option maxRecDepth 100000 in
set_option maxHeartbeats 2000000 in
theorem C (p : Go.Proofs.Ytgimcnpkngpmiaa.PPostmark.Postmark)   (w : World)   {r : ByteArray} (H : Hid (P p = some r)) :
    Calls Try.prog 50 #[p.val] w (Gives (.string r) w) := by
  have HB := Lib.hid (Below.refl w.heap.size w)
  unfold P at H
  obtain ⟨p_id, p_town, p_kind_, p_first, p_last, p_lost⟩ := p
  replace H := unPostmark_hid H
  unfold Go.Proofs.Ytgimcnpkngpmiaa.PPostmark.Postmark.val
  go_enter Try.func50, Try.ntmps50
  obtain ⟨w_p_0, hw_p_0⟩ : ∃ x, w.alloc (.cells #[.int .i64 p_id, .string p_town, .int .i64 p_kind_, .int .i64 p_first, .int .i64 p_last, .string p_lost] 26) = x := ⟨_, rfl⟩
  have bw_p_0 : Below w.heap.size w w_p_0 := by rw [← hw_p_0]; exact (Below.refl _ _).alloc (Nat.le_refl _) _
  have HBw_p_0 := Lib.hid (Below.step HB.out bw_p_0)
  clear bw_p_0
  have kp_0_0 : w_p_0.cell? ⟨w.heap.size, 0, none⟩ = some (.int .i64 p_id) := by rw [← hw_p_0]; exact box_new _ _ _ 0 _ rfl
  have kp_0_1 : w_p_0.cell? ⟨w.heap.size, 1, none⟩ = some (.string p_town) := by rw [← hw_p_0]; exact box_new _ _ _ 1 _ rfl
  have kp_0_2 : w_p_0.cell? ⟨w.heap.size, 2, none⟩ = some (.int .i64 p_kind_) := by rw [← hw_p_0]; exact box_new _ _ _ 2 _ rfl
  have kp_0_3 : w_p_0.cell? ⟨w.heap.size, 3, none⟩ = some (.int .i64 p_first) := by rw [← hw_p_0]; exact box_new _ _ _ 3 _ rfl
  have kp_0_4 : w_p_0.cell? ⟨w.heap.size, 4, none⟩ = some (.int .i64 p_last) := by rw [← hw_p_0]; exact box_new _ _ _ 4 _ rfl
  have kp_0_5 : w_p_0.cell? ⟨w.heap.size, 5, none⟩ = some (.string p_lost) := by rw [← hw_p_0]; exact box_new _ _ _ 5 _ rfl
  replace H := guard_hid H
  obtain ⟨hnt_4, H⟩ := H
  replace H := let_hid H
  obtain ⟨t_4, ht_4, H⟩ := H
  have Dt_4_p_0 := Lib.hid (apart_box kp_0_0)
  obtain ⟨wt_4, ct_4, rt_4, ot_4, bt_4⟩ := Go.Proofs.Ytgimcnpkngpmiaa.GoB.conv_new (P := Try.prog) (w.heap.size) w_p_0 9 65 5 p_town Try.underlying9 Try.underlying65 Try.underlying5 HBw_p_0.out.size (by omega) ht_4
  have Ot_4 := Lib.hid ot_4
  clear ot_4
  have hht_4 := Lib.hid ht_4
  clear ht_4
  have HBwt_4 := Lib.hid (Below.step HBw_p_0.out bt_4)
  have kp_0_0__165 := cell_below bt_4 kp_0_0
  have kp_0_1__166 := cell_below bt_4 kp_0_1
  have kp_0_2__167 := cell_below bt_4 kp_0_2
  have kp_0_3__168 := cell_below bt_4 kp_0_3
  have kp_0_4__169 := cell_below bt_4 kp_0_4
  have kp_0_5__170 := cell_below bt_4 kp_0_5
  clear bt_4
  go_wp2_with fail
  clear kp_0_0 kp_0_1 kp_0_2 kp_0_3 kp_0_4 kp_0_5 rt_4
  have hb_0 : t_4.length ≤ 9223372036854775807 := own_max Ot_4.out
  go_wp2_with fail
  go_loopg [10] (t_4.length) (fun m_ v10_ wr => ∃ (k0 : Nat) (shown_3l0 : (List Int)), k0 + m_ = t_4.length ∧ v10_ = .int .i64 (k0 : Int) ∧ Hid (cntK (l0 p_lost) m_ k0 (shown_3l0) (e0 ) = some r) ∧ Hid (Below w.heap.size w wr) ∧ wr.cell? ⟨w.heap.size, 0, none⟩ = some (.int .i64 p_id) ∧ wr.cell? ⟨w.heap.size, 1, none⟩ = some (.string p_town) ∧ wr.cell? ⟨w.heap.size, 2, none⟩ = some (.int .i64 p_kind_) ∧ wr.cell? ⟨w.heap.size, 3, none⟩ = some (.int .i64 p_first) ∧ wr.cell? ⟨w.heap.size, 4, none⟩ = some (.int .i64 p_last) ∧ wr.cell? ⟨w.heap.size, 5, none⟩ = some (.string p_lost) ∧ Hid (Go.Proofs.Ytgimcnpkngpmiaa.GoB.ownsB wr w.heap.size 5 1 (.slice (some ⟨w_p_0.heap.size, 0, none⟩) t_4.length ct_4) t_4.length (Go.Proofs.Ytgimcnpkngpmiaa.GoB.u8s shown_3l0)) ∧ Hid (shown_3l0.length = t_4.length) ∧ Hid (Apart (some ⟨w_p_0.heap.size, 0, none⟩) (some ⟨w.heap.size, 0, none⟩)))
  case atStart => exact ⟨0, _, by omega, rfl, H, HBwt_4, kp_0_0__165, kp_0_1__166, kp_0_2__167, kp_0_3__168, kp_0_4__169, kp_0_5__170, Ot_4, Lib.hid (rfl), Lib.hid Dt_4_p_0.out⟩
  case round =>
    obtain ⟨k0, shown_3l0, hkm0, rfl, H, HBwr0, kp_0_0__165, kp_0_1__166, kp_0_2__167, kp_0_3__168, kp_0_4__169, kp_0_5__170, Oshown_3l0, hnshown_3l0, Dshown_3l0_p_0⟩ := hrel
    rename World => wr0
    cases gk with
    | zero =>
      obtain rfl : k0 = t_4.length := by omega
      have hc0 : decide (((t_4.length : Nat) : Int) < ((t_4.length : Nat) : Int)) = false := by simp
      replace H := cnt_zero H
      unfold e0 at H
      replace H := let_hid H
      obtain ⟨_, rfl, H⟩ := H
      replace H := let_hid H
      obtain ⟨t_24, ht_24, H⟩ := H
      have rt_24 := Go.Proofs.Ytgimcnpkngpmiaa.GoB.conv_back (P := Try.prog) Try.underlying65 Try.underlying5 Try.underlying9 Oshown_3l0.out ht_24
      have hht_24 := Lib.hid ht_24
      clear ht_24
      obtain rfl := ret_hid H
      go_wp2_with fail
      go_ret
      exact ⟨rfl, HBwr0.out⟩
    | succ m0 =>
      have hlt0 : k0 < t_4.length := by omega
      have hc0 : decide ((k0 : Int) < ((t_4.length : Nat) : Int)) = true := by simp; omega
      replace H := cnt_succ H
      unfold l0 at H
      replace H := let_hid H
      obtain ⟨_, rfl, H⟩ := H
      replace H := idx_hid H
      obtain ⟨nt_15, yt_15, et_15, lt_15, gt_15, H⟩ := H
      obtain rfl : k0 = nt_15 := by omega
      clear et_15
      have rt_15 := byte_rule lt_15 gt_15.out
      have b0t_15 : (0 : Int) ≤ (k0 : Int) := by omega
      have b1t_15 : (k0 : Int) < (p_lost.size : Int) := by have := size_list p_lost; omega
      have b2t_15 : ((k0 : Int)).toNat = k0 := by omega
      have b3t_15 : k0 < p_lost.size := by have := size_list p_lost; omega
      replace H := let_hid H
      obtain ⟨t_15, ht_15, H⟩ := H
      replace H := let_hid H
      obtain ⟨t_16, ht_16, H⟩ := H
      cases t_16 with
      | false =>
        replace H := ite_f H
        replace H := app_hid H
        go_wp2_with fail
        go_roundg m0
        case measure => omega
        case rel => exact ⟨k0 + 1, _, by omega, by go_num, H, HBwr0, kp_0_0__165, kp_0_1__166, kp_0_2__167, kp_0_3__168, kp_0_4__169, kp_0_5__170, Oshown_3l0, Lib.hid (hnshown_3l0.out), Lib.hid Dshown_3l0_p_0.out⟩
      | true =>
        replace H := ite_t H
        replace H := idx_hid H
        obtain ⟨nt_19, yt_19, et_19, lt_19, gt_19, H⟩ := H
        obtain rfl : k0 = nt_19 := by omega
        clear et_19
        have hqt_19 := hnshown_3l0.out
        obtain ⟨ab_t_19, ao_t_19, zt_19, At_19, z_t_19, ct_19_0⟩ := Go.Proofs.Ytgimcnpkngpmiaa.GoB.u8_at (own_cells Oshown_3l0.out) (k := k0) (by omega)
        obtain rfl := Option.some.inj (gt_19.out.symm.trans z_t_19)
        simp only [Option.some.injEq, Addr.mk.injEq] at At_19
        obtain ⟨rfl, rfl, _⟩ := At_19
        clear z_t_19
        simp only [Nat.zero_add] at ct_19_0
        have b0t_19 : (0 : Int) ≤ (k0 : Int) := by omega
        have b1t_19 : (k0 : Int) < ((t_4.length : Nat) : Int) := by omega
        have b2t_19 : ((k0 : Int)).toNat = k0 := by omega
        clear hqt_19
        replace H := let_hid H
        obtain ⟨l20_20, hl20_20, H⟩ := H
        try simp only [Int.toNat_natCast] at hl20_20
        obtain ⟨wl20_20, hwl20_20⟩ : ∃ x, (wr0).setCell ⟨w_p_0.heap.size, k0, none⟩ (.int .u8 63) = x := ⟨_, rfl⟩
        have z0l20_20 := Oshown_3l0.out.frozenAt (k0) (by have hz_ := lt_19; have hy_ := hnshown_3l0.out; omega)
        have Sl20_20 := Lib.hid (own_stores [(k0, .int .u8 63)] Oshown_3l0.out)
        have nl20_20 : Hid (l20_20.length = t_4.length) := Lib.hid (by rw [← hl20_20, List.length_set]; exact hnshown_3l0.out)
        have Pl20_20 : Hid (Go.Proofs.Ytgimcnpkngpmiaa.GoB.ownsB wl20_20 w.heap.size 5 1 (.slice (some ⟨w_p_0.heap.size, 0, none⟩) t_4.length ct_4) t_4.length (Go.Proofs.Ytgimcnpkngpmiaa.GoB.u8s l20_20)) := Lib.hid (by have e_ : ([(k0, .int .u8 63)] : List (Nat × Value)).foldl (fun xs p => xs.set p.1 p.2) (Go.Proofs.Ytgimcnpkngpmiaa.GoB.u8s shown_3l0) = (Go.Proofs.Ytgimcnpkngpmiaa.GoB.u8s l20_20) := (by rw [← hl20_20]; first | done | simp [Go.Proofs.Ytgimcnpkngpmiaa.GoB.u8s, List.map_set]); rw [← hwl20_20, ← e_]; exact Sl20_20.out.1)
        have Gl20_20 : Hid (wr0.grownBy wl20_20 (Value.slice (some ⟨w_p_0.heap.size, 0, none⟩) t_4.length ct_4).ownBlock) := Lib.hid (by rw [← hwl20_20]; exact Sl20_20.out.2)
        have HBwl20_20 := Lib.hid (HBwr0.out.grown Gl20_20.out HBwr0.out.size (fun q hq => (Oshown_3l0.out.lt q hq).1))
        have hhl20_20 := Lib.hid hl20_20
        clear hl20_20 Sl20_20
        have kp_0_0__171 := cell_other kp_0_0__165 Gl20_20.out Dshown_3l0_p_0.out
        have kp_0_1__172 := cell_other kp_0_1__166 Gl20_20.out Dshown_3l0_p_0.out
        have kp_0_2__173 := cell_other kp_0_2__167 Gl20_20.out Dshown_3l0_p_0.out
        have kp_0_3__174 := cell_other kp_0_3__168 Gl20_20.out Dshown_3l0_p_0.out
        have kp_0_4__175 := cell_other kp_0_4__169 Gl20_20.out Dshown_3l0_p_0.out
        have kp_0_5__176 := cell_other kp_0_5__170 Gl20_20.out Dshown_3l0_p_0.out
        clear Oshown_3l0 Gl20_20
        replace H := app_hid H
        go_wp2_with fail
        clear z0l20_20 kp_0_0__165 kp_0_1__166 kp_0_2__167 kp_0_3__168 kp_0_4__169 kp_0_5__170 ct_19_0
        go_roundg m0
        case measure => omega
        case rel => exact ⟨k0 + 1, _, by omega, by go_num, H, HBwl20_20, kp_0_0__171, kp_0_1__172, kp_0_2__173, kp_0_3__174, kp_0_4__175, kp_0_5__176, Pl20_20, Lib.hid (nl20_20.out), Lib.hid Dshown_3l0_p_0.out⟩
end Go.Proofs.Ytgimcnpkngpmiaa.GiLoShownBy

/- Chapter 11: postmarks: the plain functions of the program and of the reference agree, and the laws answer true. (Q11Show) No condition but those of each theorem. -/
namespace Go.Proofs.Ytgimcnpkngpmiaa.Q11Show
set_option linter.unusedVariables false
set_option linter.unusedSimpArgs false
open Go.RowKit
open Go.Proofs.Ytgimcnpkngpmiaa.GoP Go.Proofs.Ytgimcnpkngpmiaa.PlainStamp Go.Proofs.Ytgimcnpkngpmiaa.QBase Go.Proofs.Ytgimcnpkngpmiaa.Q11Mark Go.Proofs.Ytgimcnpkngpmiaa.QUp Go.Proofs.Ytgimcnpkngpmiaa.QAll Go.Proofs.Ytgimcnpkngpmiaa.QByte Go.Proofs.Ytgimcnpkngpmiaa.QWord Go.Proofs.Ytgimcnpkngpmiaa.QLoop Go.Proofs.Ytgimcnpkngpmiaa.PPostmark

def sh (t b : UInt8) : UInt8 := if b = 120 then 63 else t
def shL (p : Postmark) : List UInt8 := List.zipWith sh p.town.toList p.lost.toList
def shown (p : Postmark) : ByteArray := bs (shL p)
theorem shL_at {p : Postmark} {k : Nat} {t b : UInt8} (ht : p.town.toList[k]? = some t) (hb : p.lost.toList[k]? = some b) : (shL p)[k]? = some (sh t b) := by
  unfold shL; rw [List.getElem?_zipWith, ht, hb]
theorem shL_len {p : Postmark} (h : p.lost.size = p.town.size) : (shL p).length = p.town.size := by
  unfold shL; rw [List.length_zipWith, toList_size, toList_size]; omega
theorem shown_size {p : Postmark} (h : p.lost.size = p.town.size) : (shown p).size = p.town.size := by unfold shown; rw [bs_size, shL_len h]
theorem strK_toI (l : List UInt8) : Go.Proofs.Ytgimcnpkngpmiaa.GoB.strK (toI l) = bs l := by
  unfold Go.Proofs.Ytgimcnpkngpmiaa.GoB.strK toI bs
  rw [List.map_map]
  have : ((fun z : Int => UInt8.ofNat z.toNat) ∘ fun b : UInt8 => (b.toNat : Int)) = id := by
    funext b; simp
  rw [this, List.map_id]
theorem shown_impl {p : Postmark} (h : p.lost.size = p.town.size) (h10 : p.town.size ≤ 1000) : GiLoShownBy.P p = some (shown p) := by
  obtain ⟨q, hq⟩ : ∃ q, p = q := ⟨_, rfl⟩
  obtain ⟨a, b, c, d, e, g⟩ := p
  dsimp only at h h10
  simp only [GiLoShownBy.P, unPostmark, letK]
  rw [guardK_pos (by omega), List.length_map, toList_size]
  refine cnt_is _ (fun k s => s = toI ((shL ⟨a, b, c, d, e, g⟩).take k ++ b.toList.drop k)) ?_ ?_ _ (by simp [toI])
  · intro k s nx hk hI hn
    obtain ⟨t, ht, _⟩ := at_lt (l := b.toList) (k := k) (by rw [toList_size]; omega)
    obtain ⟨y, hy, hyi⟩ := at_lt (l := g.toList) (k := k) (by rw [toList_size]; omega)
    have hs := shL_at (p := ⟨a, b, c, d, e, g⟩) ht hy
    have hlen := shL_len (p := ⟨a, b, c, d, e, g⟩) h
    dsimp only at hlen
    obtain ⟨hk1, e1⟩ := List.getElem?_eq_some_iff.1 ht
    have hdrop : b.toList.drop k = t :: b.toList.drop (k + 1) := by rw [List.drop_eq_getElem_cons hk1, e1]
    rw [hdrop] at hI
    have hl1 : (toI ((shL ⟨a, b, c, d, e, g⟩).take k)).length = k := by unfold toI; rw [List.length_map, List.length_take]; omega
    have hI' : s = toI ((shL ⟨a, b, c, d, e, g⟩).take k) ++ ((t.toNat : Int) :: toI (b.toList.drop (k + 1))) := by rw [hI]; simp [toI]
    have e120 : ((y.toNat : Int) == 120) = (y == 120) := byte_eq y 120
    simp only [GiLoShownBy.l0, letK, hyi, Option.bind_some, iteK_if, e120]
    cases h120 : (y == 120) with
    | true =>
      have hat : idx s (k : Int) = some (t.toNat : Int) := by rw [idx_nat, hI', List.getElem?_append_right (by omega), hl1]; simp
      rw [if_pos rfl]
      simp only [hat, Option.bind_some, appK]
      refine hn _ ?_
      rw [hI', List.set_append_right _ _ (by omega), hl1, take_next hs]
      have : sh t y = 63 := by unfold sh; rw [if_pos (by simpa using h120)]
      rw [this]; simp [toI]
    | false =>
      rw [if_neg (by simp)]
      simp only [appK]
      refine hn _ ?_
      rw [hI, take_next hs]
      have : sh t y = t := by unfold sh; rw [if_neg (by simpa using h120)]
      rw [this]; simp
  · intro s hI
    have hlen := shL_len (p := ⟨a, b, c, d, e, g⟩) h
    dsimp only at hlen
    rw [List.take_of_length_le (by omega), List.drop_of_length_le (by rw [toList_size]; omega), List.append_nil] at hI
    simp only [GiLoShownBy.e0, letK, hI, strK_toI]; rfl
theorem shown_spec {p : Postmark} (h : p.lost.size = p.town.size) (h10 : p.town.size ≤ 10) (fuel : Nat) (hfu : 100 ≤ fuel) : GsL11Shown.P fuel p = some (shown p) := by
  obtain ⟨a, b, c, d, e, g⟩ := p
  dsimp only at h h10
  have hlen := shL_len (p := ⟨a, b, c, d, e, g⟩) h
  dsimp only at hlen
  simp only [GsL11Shown.P, unPostmark]
  refine lp_is (n := b.size) _ (fun k (s : ByteArray × Int) => s = (bs ((shL ⟨a, b, c, d, e, g⟩).take k), (k : Int))) ?_ ?_ fuel 0 _ (by omega) (by omega) rfl
  · rintro k s nx hk rfl hn
    obtain ⟨t, ht, _⟩ := at_lt (l := b.toList) (k := k) (by rw [toList_size]; omega)
    obtain ⟨y, hy, hyi⟩ := at_lt (l := g.toList) (k := k) (by rw [toList_size]; omega)
    have hs := shL_at (p := ⟨a, b, c, d, e, g⟩) ht hy
    have e120 : ((y.toNat : Int) == 120) = (y == 120) := byte_eq y 120
    have hw1 := wrap_in (x := (k : Int) + 1) (by omega) (by omega)
    have hsz : (bs ((shL ⟨a, b, c, d, e, g⟩).take k)).size ≤ 10 := by rw [bs_size, List.length_take]; omega
    simp only [GsL11Shown.l0, unp2, letK, hyi, Option.bind_some, iteK_if, e120, hw1, appK]
    rw [if_pos (by simp; omega)]
    cases h120 : (y == 120) with
    | true =>
      have hone : (⟨#[63]⟩ : ByteArray).size = 1 := rfl
      rw [if_pos rfl, guardK_pos (by rw [hone]; unfold maxLen; omega)]
      refine hn _ ?_
      have : sh t y = 63 := by unfold sh; rw [if_pos (by simpa using h120)]
      rw [take_next hs, this, ← bs_app]; rfl
    | false =>
      have hex : b.extract k (k + 1) = bs [t] := by
        have h1 : (bs b.toList).extract k (k + 1) = bs [t] := by
          rw [bs_cut, take_next ht, List.drop_left' (by rw [List.length_take, toList_size]; omega)]
        rw [bs_of] at h1; exact h1
      rw [if_neg (by simp), guardK_pos (by omega), show Int.toNat (k : Int) = k by omega, show Int.toNat ((k : Int) + 1) = k + 1 by omega, hex]
      have hone : (bs [t]).size = 1 := bs_size _
      rw [guardK_pos (by rw [hone]; unfold maxLen; omega), bs_app]
      refine hn _ ?_
      have : sh t y = t := by unfold sh; rw [if_neg (by simpa using h120)]
      rw [take_next hs, this]; rfl
  · rintro s nx rfl
    simp only [GsL11Shown.l0, unp2, letK, iteK_if, appK, GsL11Shown.e0]
    rw [if_neg (by simp), List.take_of_length_le (by omega)]; rfl
def shownRes (p : Postmark) : ByteArray × Bool := if okPm p = true then (shown p, true) else (⟨#[]⟩, false)
end Go.Proofs.Ytgimcnpkngpmiaa.Q11Show

/- loop.example/g01062/spec.l11Find as a plain function, and the contract of the program's: where the plain one has an answer, the program has it. Conditions: slices read as lists. -/
namespace Go.Proofs.Ytgimcnpkngpmiaa.GsL11Find
set_option linter.unusedVariables false
set_option linter.unusedSimpArgs false
open Go.RowKit
open Go.Proofs.Ytgimcnpkngpmiaa.Rowed Go.Proofs.Ytgimcnpkngpmiaa.Turn Go.Proofs.Ytgimcnpkngpmiaa.Aid Go.Proofs.Ytgimcnpkngpmiaa.GoP Go.Proofs.Ytgimcnpkngpmiaa.GoM

def l0 (list : (List Go.Proofs.Ytgimcnpkngpmiaa.PPostmark.Postmark)) (id : Int) (k0 : Nat) (s : Unit) (nx0 bk0 : Unit → Option (Int)) : Option (Int) :=
  
  Option.bind (idx list (k0 : Int)) fun (yt_8 : Go.Proofs.Ytgimcnpkngpmiaa.PPostmark.Postmark) =>
  unPostmark yt_8 fun (t_8_id : Int) (t_8_town : ByteArray) (t_8_kind_ : Int) (t_8_first : Int) (t_8_last : Int) (t_8_lost : ByteArray) =>
  letK (t_8_id == id) fun (t_12 : Bool) =>
  iteK t_12
  (some (k0 : Int))
  (appK nx0 ())

def e0  (s : Unit) : Option (Int) :=
  
  some (-1)

def P (list : (List Go.Proofs.Ytgimcnpkngpmiaa.PPostmark.Postmark)) (id : Int) : Option (Int) :=
  cntK (l0 list id) (list.length) 0 () (e0 )

set_option maxRecDepth 100000 in
set_option maxHeartbeats 2000000 in
theorem C (list : (List Go.Proofs.Ytgimcnpkngpmiaa.PPostmark.Postmark)) (id : Int) (A0 : Option Addr) (c0 : Nat)  (w : World) (M0 : Hid (Cells w 6 A0 list.length (Go.Proofs.Ytgimcnpkngpmiaa.PPostmark.flat list))) (N0 : Hid (list.length ≤ 9223372036854775807))  {r : Int} (H : Hid (P list id = some r)) :
    Calls Try.prog 51 #[.slice A0 list.length c0, .int .i64 id] w (Gives (.int .i64 r) w) := by
  have HB := Lib.hid (Below.refl w.heap.size w)
  unfold P at H
  have N0o := N0.out
  go_enter Try.func51, Try.ntmps51
  go_wp2_with fail
  go_loopg [5] (list.length) (fun m_ v5_ wr => ∃ (k0 : Nat) , k0 + m_ = list.length ∧ v5_ = .int .i64 (k0 : Int) ∧ Hid (cntK (l0 list id) m_ k0 () (e0 ) = some r) ∧ Hid (Below w.heap.size w wr))
  case atStart => exact ⟨0, by omega, rfl, H, HB⟩
  case round =>
    obtain ⟨k0, hkm0, rfl, H, HBwr0⟩ := hrel
    rename World => wr0
    cases gk with
    | zero =>
      obtain rfl : k0 = list.length := by omega
      have hc0 : decide (((list.length : Nat) : Int) < ((list.length : Nat) : Int)) = false := by simp
      replace H := cnt_zero H
      unfold e0 at H
      obtain rfl := ret_hid H
      go_wp2_with fail
      go_ret
      exact ⟨rfl, HBwr0.out⟩
    | succ m0 =>
      have hlt0 : k0 < list.length := by omega
      have hc0 : decide ((k0 : Int) < ((list.length : Nat) : Int)) = true := by simp; omega
      replace H := cnt_succ H
      unfold l0 at H
      replace H := idx_hid H
      obtain ⟨nt_8, yt_8, et_8, lt_8, gt_8, H⟩ := H
      obtain rfl : k0 = nt_8 := by omega
      clear et_8
      obtain ⟨t_8_id, t_8_town, t_8_kind_, t_8_first, t_8_last, t_8_lost⟩ := yt_8
      replace H := unPostmark_hid H
      obtain ⟨ab_t_8, ao_t_8, zt_8, At_8, z_t_8, ct_8_0, ct_8_1, ct_8_2, ct_8_3, ct_8_4, ct_8_5⟩ := Go.Proofs.Ytgimcnpkngpmiaa.OPostmark.at_ M0.out lt_8
      obtain rfl := Option.some.inj (gt_8.out.symm.trans z_t_8)
      subst At_8
      have ltt_8 := cell_lt ct_8_0
      replace ct_8_0 := cell_below HBwr0.out ct_8_0
      replace ct_8_1 := cell_below HBwr0.out ct_8_1
      replace ct_8_2 := cell_below HBwr0.out ct_8_2
      replace ct_8_3 := cell_below HBwr0.out ct_8_3
      replace ct_8_4 := cell_below HBwr0.out ct_8_4
      replace ct_8_5 := cell_below HBwr0.out ct_8_5
      clear z_t_8
      have b0t_8 : (0 : Int) ≤ (k0 : Int) := by omega
      have b1t_8 : (k0 : Int) < ((list.length : Nat) : Int) := by omega
      have b2t_8 : ((k0 : Int)).toNat = k0 := by omega
      replace H := let_hid H
      obtain ⟨t_12, ht_12, H⟩ := H
      cases t_12 with
      | false =>
        replace H := ite_f H
        replace H := app_hid H
        go_wp2_with fail
        go_roundg m0
        case measure => omega
        case rel => exact ⟨k0 + 1, by omega, by go_num, H, HBwr0⟩
      | true =>
        replace H := ite_t H
        obtain rfl := ret_hid H
        go_wp2_with fail
        go_ret
        exact ⟨rfl, HBwr0.out⟩
end Go.Proofs.Ytgimcnpkngpmiaa.GsL11Find

/- loop.example/g01062/impl.indexOfPostmark$1 as a plain function, and the contract of the program's: where the plain one has an answer, the program has it. Conditions: slices read as lists. -/
namespace Go.Proofs.Ytgimcnpkngpmiaa.GiIndexOfPostmark1
set_option linter.unusedVariables false
set_option linter.unusedSimpArgs false
open Go.RowKit
open Go.Proofs.Ytgimcnpkngpmiaa.Rowed Go.Proofs.Ytgimcnpkngpmiaa.Turn Go.Proofs.Ytgimcnpkngpmiaa.Aid Go.Proofs.Ytgimcnpkngpmiaa.GoP Go.Proofs.Ytgimcnpkngpmiaa.GoM

def P (p : Go.Proofs.Ytgimcnpkngpmiaa.PPostmark.Postmark) (hq0 : Int) : Option (Bool) :=
  unPostmark p fun (p_id : Int) (p_town : ByteArray) (p_kind_ : Int) (p_first : Int) (p_last : Int) (p_lost : ByteArray) =>
  letK (p_id == hq0) fun (t_5 : Bool) =>
  some t_5

set_option maxRecDepth 100000 in
set_option maxHeartbeats 2000000 in
theorem C (p : Go.Proofs.Ytgimcnpkngpmiaa.PPostmark.Postmark) (hq0 : Int)  (gq0 : Nat) (w : World)  (Fq0h : Hid (w.cell? ⟨gq0, 0, none⟩ = some (.int .i64 hq0))) {r : Bool} (H : Hid (P p hq0 = some r)) :
    Calls Try.prog 78 #[p.val, .pointer (some ⟨gq0, 0, none⟩)] w (Gives (.bool r) w) := by
  have HB := Lib.hid (Below.refl w.heap.size w)
  unfold P at H
  obtain ⟨p_id, p_town, p_kind_, p_first, p_last, p_lost⟩ := p
  replace H := unPostmark_hid H
  unfold Go.Proofs.Ytgimcnpkngpmiaa.PPostmark.Postmark.val
  have Fq0 := Fq0h.out
  go_enter Try.func78, Try.ntmps78
  obtain ⟨w_p_0, hw_p_0⟩ : ∃ x, w.alloc (.cells #[.int .i64 p_id, .string p_town, .int .i64 p_kind_, .int .i64 p_first, .int .i64 p_last, .string p_lost] 26) = x := ⟨_, rfl⟩
  have bw_p_0 : Below w.heap.size w w_p_0 := by rw [← hw_p_0]; exact (Below.refl _ _).alloc (Nat.le_refl _) _
  have HBw_p_0 := Lib.hid (Below.step HB.out bw_p_0)
  have Fq0__250 := cell_below bw_p_0 Fq0
  clear bw_p_0
  have kp_0_0 : w_p_0.cell? ⟨w.heap.size, 0, none⟩ = some (.int .i64 p_id) := by rw [← hw_p_0]; exact box_new _ _ _ 0 _ rfl
  have kp_0_1 : w_p_0.cell? ⟨w.heap.size, 1, none⟩ = some (.string p_town) := by rw [← hw_p_0]; exact box_new _ _ _ 1 _ rfl
  have kp_0_2 : w_p_0.cell? ⟨w.heap.size, 2, none⟩ = some (.int .i64 p_kind_) := by rw [← hw_p_0]; exact box_new _ _ _ 2 _ rfl
  have kp_0_3 : w_p_0.cell? ⟨w.heap.size, 3, none⟩ = some (.int .i64 p_first) := by rw [← hw_p_0]; exact box_new _ _ _ 3 _ rfl
  have kp_0_4 : w_p_0.cell? ⟨w.heap.size, 4, none⟩ = some (.int .i64 p_last) := by rw [← hw_p_0]; exact box_new _ _ _ 4 _ rfl
  have kp_0_5 : w_p_0.cell? ⟨w.heap.size, 5, none⟩ = some (.string p_lost) := by rw [← hw_p_0]; exact box_new _ _ _ 5 _ rfl
  replace H := let_hid H
  obtain ⟨t_5, ht_5, H⟩ := H
  obtain rfl := ret_hid H
  go_wp2_with fail
  go_ret
  exact ⟨rfl, HBw_p_0.out⟩
end Go.Proofs.Ytgimcnpkngpmiaa.GiIndexOfPostmark1

/- slices.IndexFunc[[]loop.example/g01062/impl.Postmark,loop.example/g01062/impl.Postmark] as a plain function, and the contract of the program's: where the plain one has an answer, the program has it. Conditions: slices read as lists. -/
namespace Go.Proofs.Ytgimcnpkngpmiaa.GxSlicesIndexFuncLoopExampleG01062ImplPostmarkLoopExampleG01062ImplPostmarkiIndexOfPostmark1
set_option linter.unusedVariables false
set_option linter.unusedSimpArgs false
open Go.RowKit
open Go.Proofs.Ytgimcnpkngpmiaa.Rowed Go.Proofs.Ytgimcnpkngpmiaa.Turn Go.Proofs.Ytgimcnpkngpmiaa.Aid Go.Proofs.Ytgimcnpkngpmiaa.GoP Go.Proofs.Ytgimcnpkngpmiaa.GoM

def l0 (s_0 : (List Go.Proofs.Ytgimcnpkngpmiaa.PPostmark.Postmark)) (hf1_0 : Int) (k0 : Nat) (s : Unit) (nx0 bk0 : Unit → Option (Int)) : Option (Int) :=
  
  Option.bind (idx s_0 (k0 : Int)) fun (yt_10 : Go.Proofs.Ytgimcnpkngpmiaa.PPostmark.Postmark) =>
  unPostmark yt_10 fun (t_10_id : Int) (t_10_town : ByteArray) (t_10_kind_ : Int) (t_10_first : Int) (t_10_last : Int) (t_10_lost : ByteArray) =>
  Option.bind (Go.Proofs.Ytgimcnpkngpmiaa.GiIndexOfPostmark1.P (Go.Proofs.Ytgimcnpkngpmiaa.PPostmark.Postmark.mk t_10_id t_10_town t_10_kind_ t_10_first t_10_last t_10_lost) hf1_0) fun (t_12 : Bool) =>
  iteK t_12
  (some (k0 : Int))
  (appK nx0 ())

def e0  (s : Unit) : Option (Int) :=
  
  some (-1)

def P (s_0 : (List Go.Proofs.Ytgimcnpkngpmiaa.PPostmark.Postmark)) (hf1_0 : Int) : Option (Int) :=
  cntK (l0 s_0 hf1_0) (s_0.length) 0 () (e0 )

set_option maxRecDepth 100000 in
set_option maxHeartbeats 2000000 in
theorem C (s_0 : (List Go.Proofs.Ytgimcnpkngpmiaa.PPostmark.Postmark)) (hf1_0 : Int) (A0 : Option Addr) (c0 : Nat) (gf1_0 : Nat) (w : World) (M0 : Hid (Cells w 6 A0 s_0.length (Go.Proofs.Ytgimcnpkngpmiaa.PPostmark.flat s_0))) (N0 : Hid (s_0.length ≤ 9223372036854775807)) (Ff1_0h : Hid (w.cell? ⟨gf1_0, 0, none⟩ = some (.int .i64 hf1_0))) {r : Int} (H : Hid (P s_0 hf1_0 = some r)) :
    Calls Try.prog 77 #[.slice A0 s_0.length c0, .func (.func 78) #[] #[.pointer (some ⟨gf1_0, 0, none⟩)]] w (Gives (.int .i64 r) w) := by
  have HB := Lib.hid (Below.refl w.heap.size w)
  unfold P at H
  have N0o := N0.out
  have Ff1_0 := Ff1_0h.out
  go_enter Try.func77, Try.ntmps77
  go_wp2_with fail
  go_loopg [8] (s_0.length) (fun m_ v8_ wr => ∃ (k0 : Nat) , k0 + m_ = s_0.length ∧ v8_ = .int .i64 (k0 : Int) ∧ Hid (cntK (l0 s_0 hf1_0) m_ k0 () (e0 ) = some r) ∧ Hid (Below w.heap.size w wr) ∧ wr.cell? ⟨gf1_0, 0, none⟩ = some (.int .i64 hf1_0))
  case atStart => exact ⟨0, by omega, rfl, H, HB, Ff1_0⟩
  case round =>
    obtain ⟨k0, hkm0, rfl, H, HBwr0, Ff1_0⟩ := hrel
    rename World => wr0
    cases gk with
    | zero =>
      obtain rfl : k0 = s_0.length := by omega
      have hc0 : decide (((s_0.length : Nat) : Int) < ((s_0.length : Nat) : Int)) = false := by simp
      replace H := cnt_zero H
      unfold e0 at H
      obtain rfl := ret_hid H
      go_wp2_with fail
      go_ret
      exact ⟨rfl, HBwr0.out⟩
    | succ m0 =>
      have hlt0 : k0 < s_0.length := by omega
      have hc0 : decide ((k0 : Int) < ((s_0.length : Nat) : Int)) = true := by simp; omega
      replace H := cnt_succ H
      unfold l0 at H
      replace H := idx_hid H
      obtain ⟨nt_10, yt_10, et_10, lt_10, gt_10, H⟩ := H
      obtain rfl : k0 = nt_10 := by omega
      clear et_10
      obtain ⟨t_10_id, t_10_town, t_10_kind_, t_10_first, t_10_last, t_10_lost⟩ := yt_10
      replace H := unPostmark_hid H
      obtain ⟨ab_t_10, ao_t_10, zt_10, At_10, z_t_10, ct_10_0, ct_10_1, ct_10_2, ct_10_3, ct_10_4, ct_10_5⟩ := Go.Proofs.Ytgimcnpkngpmiaa.OPostmark.at_ M0.out lt_10
      obtain rfl := Option.some.inj (gt_10.out.symm.trans z_t_10)
      subst At_10
      have ltt_10 := cell_lt ct_10_0
      replace ct_10_0 := cell_below HBwr0.out ct_10_0
      replace ct_10_1 := cell_below HBwr0.out ct_10_1
      replace ct_10_2 := cell_below HBwr0.out ct_10_2
      replace ct_10_3 := cell_below HBwr0.out ct_10_3
      replace ct_10_4 := cell_below HBwr0.out ct_10_4
      replace ct_10_5 := cell_below HBwr0.out ct_10_5
      clear z_t_10
      have b0t_10 : (0 : Int) ≤ (k0 : Int) := by omega
      have b1t_10 : (k0 : Int) < ((s_0.length : Nat) : Int) := by omega
      have b2t_10 : ((k0 : Int)).toNat = k0 := by omega
      replace H := bind_hid H
      obtain ⟨t_12, qt_12, H⟩ := H
      go_wp2_with fail
      go_at_call 78
      refine (Go.Proofs.Ytgimcnpkngpmiaa.GiIndexOfPostmark1.C ((Go.Proofs.Ytgimcnpkngpmiaa.PPostmark.Postmark.mk t_10_id t_10_town t_10_kind_ t_10_first t_10_last t_10_lost)) (hf1_0) (gf1_0) _   (Lib.hid Ff1_0) qt_12).mono ?_
      rintro e_t_12 wt_12 ⟨rfl, bt_12⟩
      have HBwt_12 := Lib.hid (Below.step HBwr0.out bt_12)
      replace Ff1_0 := cell_below bt_12 Ff1_0
      replace ct_10_0 := cell_below bt_12 ct_10_0
      replace ct_10_1 := cell_below bt_12 ct_10_1
      replace ct_10_2 := cell_below bt_12 ct_10_2
      replace ct_10_3 := cell_below bt_12 ct_10_3
      replace ct_10_4 := cell_below bt_12 ct_10_4
      replace ct_10_5 := cell_below bt_12 ct_10_5
      clear bt_12
      cases t_12 with
      | false =>
        replace H := ite_f H
        replace H := app_hid H
        go_wp2_with fail
        go_roundg m0
        case measure => omega
        case rel => exact ⟨k0 + 1, by omega, by go_num, H, HBwt_12, Ff1_0⟩
      | true =>
        replace H := ite_t H
        obtain rfl := ret_hid H
        go_wp2_with fail
        go_ret
        exact ⟨rfl, HBwt_12.out⟩
end Go.Proofs.Ytgimcnpkngpmiaa.GxSlicesIndexFuncLoopExampleG01062ImplPostmarkLoopExampleG01062ImplPostmarkiIndexOfPostmark1

/- loop.example/g01062/impl.indexOfPostmark as a plain function, and the contract of the program's: where the plain one has an answer, the program has it. Conditions: slices read as lists. -/
namespace Go.Proofs.Ytgimcnpkngpmiaa.GiIndexOfPostmark
set_option linter.unusedVariables false
set_option linter.unusedSimpArgs false
open Go.RowKit
open Go.Proofs.Ytgimcnpkngpmiaa.Rowed Go.Proofs.Ytgimcnpkngpmiaa.Turn Go.Proofs.Ytgimcnpkngpmiaa.Aid Go.Proofs.Ytgimcnpkngpmiaa.GoP Go.Proofs.Ytgimcnpkngpmiaa.GoM

def P (list : (List Go.Proofs.Ytgimcnpkngpmiaa.PPostmark.Postmark)) (id : Int) : Option (Int) :=
  Option.bind (Go.Proofs.Ytgimcnpkngpmiaa.GiArePostmarks.P list) fun (t_3 : Bool) =>
  letK (!t_3) fun (t_4 : Bool) =>
  iteK t_4
  (some (-1))
  (Option.bind (Go.Proofs.Ytgimcnpkngpmiaa.GxSlicesIndexFuncLoopExampleG01062ImplPostmarkLoopExampleG01062ImplPostmarkiIndexOfPostmark1.P list id) fun (t_8 : Int) =>
  some t_8)

set_option maxRecDepth 100000 in
set_option maxHeartbeats 2000000 in
theorem C (list : (List Go.Proofs.Ytgimcnpkngpmiaa.PPostmark.Postmark)) (id : Int) (A0 : Option Addr) (c0 : Nat)  (w : World) (M0 : Hid (Cells w 6 A0 list.length (Go.Proofs.Ytgimcnpkngpmiaa.PPostmark.flat list))) (N0 : Hid (list.length ≤ 9223372036854775807))  {r : Int} (H : Hid (P list id = some r)) :
    Calls Try.prog 53 #[.slice A0 list.length c0, .int .i64 id] w (Gives (.int .i64 r) w) := by
  have HB := Lib.hid (Below.refl w.heap.size w)
  unfold P at H
  have N0o := N0.out
  go_enter Try.func53, Try.ntmps53
  obtain ⟨w_id_0, hw_id_0⟩ : ∃ x, w.alloc (.cells #[.int .i64 id] 3) = x := ⟨_, rfl⟩
  have bw_id_0 : Below w.heap.size w w_id_0 := by rw [← hw_id_0]; exact (Below.refl _ _).alloc (Nat.le_refl _) _
  have HBw_id_0 := Lib.hid (Below.step HB.out bw_id_0)
  clear bw_id_0
  have kid_0_0 : w_id_0.cell? ⟨w.heap.size, 0, none⟩ = some (.int .i64 id) := by rw [← hw_id_0]; exact box_new _ _ _ 0 _ rfl
  replace H := bind_hid H
  obtain ⟨t_3, qt_3, H⟩ := H
  go_wp2_with fail
  go_at_call 19
  refine (Go.Proofs.Ytgimcnpkngpmiaa.GiArePostmarks.C (list) A0 c0 _   (Lib.hid (Cells.below M0.out HBw_id_0.out)) N0 qt_3).mono ?_
  rintro e_t_3 wt_3 ⟨rfl, bt_3⟩
  have HBwt_3 := Lib.hid (Below.step HBw_id_0.out bt_3)
  replace kid_0_0 := cell_below bt_3 kid_0_0
  clear bt_3
  cases t_3 with
  | false =>
    replace H := let_hid H
    obtain ⟨t_4, ht_4, H⟩ := H
    obtain rfl : t_4 = true := ht_4.symm
    replace H := ite_t H
    obtain rfl := ret_hid H
    go_wp2_with fail
    go_ret
    exact ⟨rfl, HBwt_3.out⟩
  | true =>
    replace H := let_hid H
    obtain ⟨t_4, ht_4, H⟩ := H
    obtain rfl : t_4 = false := ht_4.symm
    replace H := ite_f H
    replace H := bind_hid H
    obtain ⟨t_8, qt_8, H⟩ := H
    go_wp2_with fail
    go_at_call 77
    refine (Go.Proofs.Ytgimcnpkngpmiaa.GxSlicesIndexFuncLoopExampleG01062ImplPostmarkLoopExampleG01062ImplPostmarkiIndexOfPostmark1.C (list) (id) A0 c0 (w.heap.size) _   (Lib.hid (Cells.below M0.out HBwt_3.out)) N0 (Lib.hid kid_0_0) qt_8).mono ?_
    rintro e_t_8 wt_8 ⟨rfl, bt_8⟩
    have HBwt_8 := Lib.hid (Below.step HBwt_3.out bt_8)
    replace kid_0_0 := cell_below bt_8 kid_0_0
    clear bt_8
    obtain rfl := ret_hid H
    go_wp2_with fail
    go_ret
    exact ⟨rfl, HBwt_8.out⟩
end Go.Proofs.Ytgimcnpkngpmiaa.GiIndexOfPostmark

/- More words for the contracts of plain functions: a test against nil, a row that is handed over, a row whose end is cleared. No condition. -/
namespace Go.Proofs.Ytgimcnpkngpmiaa.GoK
set_option linter.unusedVariables false
open Go.RowKit
open Go.Proofs.Ytgimcnpkngpmiaa.Rowed Go.Proofs.Ytgimcnpkngpmiaa.Turn Go.Proofs.Ytgimcnpkngpmiaa.GoM

/-- a test of a row against nil: only an empty row can be nil, and then both ways have one answer -/
def nilK {α ρ : Type} (l : List α) (f : Bool → Option ρ) : Option ρ := f false
theorem nilK_hid {α ρ : Type} {l : List α} {f : Bool → Option ρ} {r : ρ} (H : Hid (nilK l f = some r)) (b : Bool) (hb : b = true → l = []) (he : l = [] → f true = f false) : Hid (f b = some r) := by
  have h : f false = some r := H
  cases b with
  | false => exact h
  | true => exact (he (hb rfl)).trans h
theorem nil_cells {w : World} {K n : Nat} {A : Option Addr} {α : Type} {l : List α} {cs : List Value} (h : Cells w K A n cs) (hl : cs = [] → l = []) : A.isNone = true → l = [] := by
  intro hA
  refine hl ?_
  cases hc : cs with
  | nil => rfl
  | cons y ys => obtain ⟨a, e, _⟩ := h.2 (by rw [hc]; simp); rw [e] at hA; simp at hA
/-- where a row lies that a function hands on: where another one lay, or behind all that was there -/
def From (w : World) (A A' : Option Addr) : Prop := ∀ a', A' = some a' → (∃ a, A = some a ∧ a.block = a'.block) ∨ w.heap.size ≤ a'.block
theorem from_self {w : World} {A : Option Addr} : From w A A := fun a h => .inl ⟨a, h, rfl⟩
theorem apart_from {w : World} {A A' B : Option Addr} (hD : Apart A B) (hB : ∀ a, B = some a → a.block < w.heap.size) (h : From w A A') : Apart A' B := by
  intro a a' ha ha' e
  have hl := hB a' ha'
  rcases h a ha with ⟨a2, h2, e2⟩ | h2
  · exact hD a2 a' h2 ha' (e2.trans e)
  · omega
theorem own_setCells {b T K n c g : Nat} : ∀ (vs : List Value) (o : Nat) {w : World} {xs : List Value}, w.ownsRow b T K (.slice (some ⟨g, 0, none⟩) n c) n xs → o + vs.length ≤ xs.length →
    (w.setCells g o vs).ownsRow b T K (.slice (some ⟨g, 0, none⟩) n c) n (xs.take o ++ vs ++ xs.drop (o + vs.length)) ∧ w.grownBy (w.setCells g o vs) (some g) := by
  intro vs
  induction vs with
  | nil => intro o w xs h _; exact ⟨by simpa [World.setCells] using h, Aid.grown_refl _ _⟩
  | cons v vs ih =>
    intro o w xs h hl
    simp only [List.length_cons] at hl
    have h1 := h.stored o v
    have h2 := ih (o + 1) h1.1 (by rw [List.length_set]; omega)
    refine ⟨?_, Aid.grown_tr h1.2 h2.2⟩
    have e : (xs.set o v).take (o + 1) ++ vs ++ (xs.set o v).drop (o + 1 + vs.length) = xs.take o ++ (v :: vs) ++ xs.drop (o + (v :: vs).length) := by
      have ho : o < xs.length := by omega
      rw [List.drop_set_of_lt (by omega), List.take_add_one, List.getElem?_set_self ho, List.take_set_of_le (Nat.le_refl _)]
      simp [Nat.add_comm, Nat.add_left_comm]
    rw [← e]
    exact h2.1
end Go.Proofs.Ytgimcnpkngpmiaa.GoK

