/- Texts on which the proofs of several laws stand, one behind the other (5 of 13). No condition of their own. -/
import Derived.Test.YtgimcnpkngpmiaaGreatDoorChecked
import Derived.Test.YtgimcnpkngpmiaaGreatDoorX12P1
import Derived.Test.YtgimcnpkngpmiaaGreatDoorX12P2
import Derived.Test.YtgimcnpkngpmiaaGreatDoorX12P4
import Derived.WalkKit
import Derived.WalkSpells
import Derived.WalkLawsBesides
import Derived.BigQuiet
import Derived.OwnWalk
import Derived.Deep.LoopGhost
import Derived.Deep.QuietTactic
import Derived.IntWalk
import Derived.Lib.QuietBelow
import Derived.Lib.SliceRun
/- loop.example/g01062/impl.areByKey[loop.example/g01062/impl.Postmark,int] as a plain function, and the contract of the program's: where the plain one has an answer, the program has it. Conditions: slices read as lists. -/
namespace Go.Proofs.YtgimcnpkngpmiaaGreatDoor.GiAreByKeyPostmarkIntiIsPostmarkiIdOfPostmark
set_option linter.unusedVariables false
set_option linter.unusedSimpArgs false
open Go.RowKit
open Go.Proofs.YtgimcnpkngpmiaaGreatDoor.Rowed Go.Proofs.YtgimcnpkngpmiaaGreatDoor.Turn Go.Proofs.YtgimcnpkngpmiaaGreatDoor.Aid Go.Proofs.YtgimcnpkngpmiaaGreatDoor.GoP Go.Proofs.YtgimcnpkngpmiaaGreatDoor.GoM

def l0 (list : (List Go.Proofs.YtgimcnpkngpmiaaGreatDoor.PPostmark.Postmark)) (k0 : Nat) (s : Unit) (nx0 bk0 : Unit → Option (Bool)) : Option (Bool) :=
  
  Option.bind (idx list (k0 : Int)) fun (yt_11 : Go.Proofs.YtgimcnpkngpmiaaGreatDoor.PPostmark.Postmark) =>
  unPostmark yt_11 fun (t_11_id : Int) (t_11_town : ByteArray) (t_11_kind_ : Int) (t_11_first : Int) (t_11_last : Int) (t_11_lost : ByteArray) =>
  Option.bind (Go.Proofs.YtgimcnpkngpmiaaGreatDoor.GiIsPostmark.P (Go.Proofs.YtgimcnpkngpmiaaGreatDoor.PPostmark.Postmark.mk t_11_id t_11_town t_11_kind_ t_11_first t_11_last t_11_lost)) fun (t_18 : Bool) =>
  letK (!t_18) fun (t_19 : Bool) =>
  joinK (fun (t_36 : Bool) =>
  iteK t_36
  (some false)
  (appK nx0 ())) fun jt_36 => iteK t_19 (appK jt_36 true) (letK (decide (0 < (k0 : Int))) fun (t_22 : Bool) =>
  joinK (fun (t_35 : Bool) =>
  appK jt_36 t_35) fun jt_35 => iteK t_22 (Option.bind (Go.Proofs.YtgimcnpkngpmiaaGreatDoor.GiIdOfPostmark.P (Go.Proofs.YtgimcnpkngpmiaaGreatDoor.PPostmark.Postmark.mk t_11_id t_11_town t_11_kind_ t_11_first t_11_last t_11_lost)) fun (t_26 : Int) =>
  letK (IntKind.i64.wrap ((k0 : Int) - 1)) fun (t_30 : Int) =>
  Option.bind (idx list t_30) fun (yt_31 : Go.Proofs.YtgimcnpkngpmiaaGreatDoor.PPostmark.Postmark) =>
  unPostmark yt_31 fun (t_31_id : Int) (t_31_town : ByteArray) (t_31_kind_ : Int) (t_31_first : Int) (t_31_last : Int) (t_31_lost : ByteArray) =>
  Option.bind (Go.Proofs.YtgimcnpkngpmiaaGreatDoor.GiIdOfPostmark.P (Go.Proofs.YtgimcnpkngpmiaaGreatDoor.PPostmark.Postmark.mk t_31_id t_31_town t_31_kind_ t_31_first t_31_last t_31_lost)) fun (t_33 : Int) =>
  letK (decide (t_26 ≤ t_33)) fun (t_34 : Bool) =>
  appK jt_35 t_34) (appK jt_35 false))

def e0  (s : Unit) : Option (Bool) :=
  
  some true

def P (list : (List Go.Proofs.YtgimcnpkngpmiaaGreatDoor.PPostmark.Postmark)) (most : Int) : Option (Bool) :=
  letK (decide (most < (list.length : Int))) fun (t_4 : Bool) =>
  iteK t_4
  (some false)
  (cntK (l0 list) (list.length) 0 () (e0 ))

set_option maxRecDepth 100000 in
set_option maxHeartbeats 2000000 in
theorem C (list : (List Go.Proofs.YtgimcnpkngpmiaaGreatDoor.PPostmark.Postmark)) (most : Int) (A0 : Option Addr) (c0 : Nat)  (w : World) (M0 : Hid (Cells w 6 A0 list.length (Go.Proofs.YtgimcnpkngpmiaaGreatDoor.PPostmark.flat list))) (N0 : Hid (list.length ≤ 9223372036854775807))  {r : Bool} (H : Hid (P list most = some r)) :
    Calls Tryz.prog 60 #[.slice A0 list.length c0, .int .i64 most, .func (.func 46) #[] #[], .func (.func 61) #[] #[]] w (Gives (.bool r) w) := by
  have HB := Lib.hid (Below.refl w.heap.size w)
  unfold P at H
  have N0o := N0.out
  go_enter Tryz.func60, Tryz.ntmps60
  replace H := let_hid H
  obtain ⟨t_4, ht_4, H⟩ := H
  cases t_4 with
  | false =>
    replace H := ite_f H
    go_wp2_with fail
    go_loopg [17] (list.length) (fun m_ v17_ wr => ∃ (k0 : Nat) , k0 + m_ = list.length ∧ v17_ = .int .i64 (k0 : Int) ∧ Hid (cntK (l0 list) m_ k0 () (e0 ) = some r) ∧ Hid (Below w.heap.size w wr))
    case atStart => exact ⟨0, by omega, rfl, H, HB⟩
    case round =>
      obtain ⟨k0, hkm0, rfl, H, HBwr0⟩ := hrel
      rename World => wr0
      cases gk with
      | zero =>
        obtain rfl : k0 = list.length := by omega
        have hc0 : decide (((list.length : Nat) : Int) < ((list.length : Nat) : Int)) = false := by simp
        replace H := cnt_zero H
        unfold e0 at H
        obtain rfl := ret_hid H
        go_wp2_with fail
        go_ret
        exact ⟨rfl, HBwr0.out⟩
      | succ m0 =>
        have hlt0 : k0 < list.length := by omega
        have hc0 : decide ((k0 : Int) < ((list.length : Nat) : Int)) = true := by simp; omega
        replace H := cnt_succ H
        unfold l0 at H
        replace H := idx_hid H
        obtain ⟨nt_11, yt_11, et_11, lt_11, gt_11, H⟩ := H
        obtain rfl : k0 = nt_11 := by omega
        clear et_11
        obtain ⟨t_11_id, t_11_town, t_11_kind_, t_11_first, t_11_last, t_11_lost⟩ := yt_11
        replace H := unPostmark_hid H
        obtain ⟨ab_t_11, ao_t_11, zt_11, At_11, z_t_11, ct_11_0, ct_11_1, ct_11_2, ct_11_3, ct_11_4, ct_11_5⟩ := Go.Proofs.YtgimcnpkngpmiaaGreatDoor.OPostmark.at_ M0.out lt_11
        obtain rfl := Option.some.inj (gt_11.out.symm.trans z_t_11)
        subst At_11
        have ltt_11 := cell_lt ct_11_0
        replace ct_11_0 := cell_below HBwr0.out ct_11_0
        replace ct_11_1 := cell_below HBwr0.out ct_11_1
        replace ct_11_2 := cell_below HBwr0.out ct_11_2
        replace ct_11_3 := cell_below HBwr0.out ct_11_3
        replace ct_11_4 := cell_below HBwr0.out ct_11_4
        replace ct_11_5 := cell_below HBwr0.out ct_11_5
        clear z_t_11
        have b0t_11 : (0 : Int) ≤ (k0 : Int) := by omega
        have b1t_11 : (k0 : Int) < ((list.length : Nat) : Int) := by omega
        have b2t_11 : ((k0 : Int)).toNat = k0 := by omega
        obtain ⟨w_e_13, hw_e_13⟩ : ∃ x, wr0.alloc (.cells #[.int .i64 t_11_id, .string t_11_town, .int .i64 t_11_kind_, .int .i64 t_11_first, .int .i64 t_11_last, .string t_11_lost] 34) = x := ⟨_, rfl⟩
        have bw_e_13 : Below wr0.heap.size wr0 w_e_13 := by rw [← hw_e_13]; exact (Below.refl _ _).alloc (Nat.le_refl _) _
        have HBw_e_13 := Lib.hid (Below.step HBwr0.out bw_e_13)
        have ct_11_0__319 := cell_below bw_e_13 ct_11_0
        have ct_11_1__320 := cell_below bw_e_13 ct_11_1
        have ct_11_2__321 := cell_below bw_e_13 ct_11_2
        have ct_11_3__322 := cell_below bw_e_13 ct_11_3
        have ct_11_4__323 := cell_below bw_e_13 ct_11_4
        have ct_11_5__324 := cell_below bw_e_13 ct_11_5
        clear bw_e_13
        have ke_13_0 : w_e_13.cell? ⟨wr0.heap.size, 0, none⟩ = some (.int .i64 t_11_id) := by rw [← hw_e_13]; exact box_new _ _ _ 0 _ rfl
        have ke_13_1 : w_e_13.cell? ⟨wr0.heap.size, 1, none⟩ = some (.string t_11_town) := by rw [← hw_e_13]; exact box_new _ _ _ 1 _ rfl
        have ke_13_2 : w_e_13.cell? ⟨wr0.heap.size, 2, none⟩ = some (.int .i64 t_11_kind_) := by rw [← hw_e_13]; exact box_new _ _ _ 2 _ rfl
        have ke_13_3 : w_e_13.cell? ⟨wr0.heap.size, 3, none⟩ = some (.int .i64 t_11_first) := by rw [← hw_e_13]; exact box_new _ _ _ 3 _ rfl
        have ke_13_4 : w_e_13.cell? ⟨wr0.heap.size, 4, none⟩ = some (.int .i64 t_11_last) := by rw [← hw_e_13]; exact box_new _ _ _ 4 _ rfl
        have ke_13_5 : w_e_13.cell? ⟨wr0.heap.size, 5, none⟩ = some (.string t_11_lost) := by rw [← hw_e_13]; exact box_new _ _ _ 5 _ rfl
        go_wp2_with fail
        clear ct_11_0 ct_11_1 ct_11_2 ct_11_3 ct_11_4 ct_11_5
        have Hct_11_0__319 := Lib.hid ct_11_0__319
        replace ct_11_0__319 := cell_regrown ct_11_0__319
        have Hct_11_1__320 := Lib.hid ct_11_1__320
        replace ct_11_1__320 := cell_regrown ct_11_1__320
        have Hct_11_2__321 := Lib.hid ct_11_2__321
        replace ct_11_2__321 := cell_regrown ct_11_2__321
        have Hct_11_3__322 := Lib.hid ct_11_3__322
        replace ct_11_3__322 := cell_regrown ct_11_3__322
        have Hct_11_4__323 := Lib.hid ct_11_4__323
        replace ct_11_4__323 := cell_regrown ct_11_4__323
        have Hct_11_5__324 := Lib.hid ct_11_5__324
        replace ct_11_5__324 := cell_regrown ct_11_5__324
        have Hke_13_0 := Lib.hid ke_13_0
        replace ke_13_0 := cell_regrown ke_13_0
        have Hke_13_1 := Lib.hid ke_13_1
        replace ke_13_1 := cell_regrown ke_13_1
        have Hke_13_2 := Lib.hid ke_13_2
        replace ke_13_2 := cell_regrown ke_13_2
        have Hke_13_3 := Lib.hid ke_13_3
        replace ke_13_3 := cell_regrown ke_13_3
        have Hke_13_4 := Lib.hid ke_13_4
        replace ke_13_4 := cell_regrown ke_13_4
        have Hke_13_5 := Lib.hid ke_13_5
        replace ke_13_5 := cell_regrown ke_13_5
        replace H := bind_hid H
        obtain ⟨t_18, qt_18, H⟩ := H
        have nt_18 : ∀ d os, Calls Tryz.prog 46 #[.agg #[.int .i64 t_11_id, .string t_11_town, .int .i64 t_11_kind_, .int .i64 t_11_first, .int .i64 t_11_last, .string t_11_lost]] (Go.Sort.grow (redrawn w_e_13 d) os) fun e w'' => e = .returned (.bool t_18) ∧ ∃ p : Regrown, w'' = Go.Sort.grow (redrawn w_e_13 p.d) p.os := fun d os => Calls.regrown_of (Go.Proofs.YtgimcnpkngpmiaaGreatDoor.GiIsPostmark.C ((Go.Proofs.YtgimcnpkngpmiaaGreatDoor.PPostmark.Postmark.mk t_11_id t_11_town t_11_kind_ t_11_first t_11_last t_11_lost))  _    qt_18)
        cases t_18 with
        | false =>
          replace H := let_hid H
          obtain ⟨t_19, ht_19, H⟩ := H
          obtain rfl : t_19 = true := ht_19.symm
          replace H := join_hid H
          replace H := ite_t H
          replace H := app_hid H
          refine wp_region_quiet_below (by kernel_rfl) (by kernel_rfl) ?_
          repeat (go_big_quiet_step (first | (go_at_call 46; exact nt_18 _ _)))
          refine wpQuiet_nil ?_
          intro Y6 hY6
          replace hY6 := below_class hY6
          clear nt_18
          replace ct_11_0__319 := Hct_11_0__319.out
          clear Hct_11_0__319
          replace ct_11_1__320 := Hct_11_1__320.out
          clear Hct_11_1__320
          replace ct_11_2__321 := Hct_11_2__321.out
          clear Hct_11_2__321
          replace ct_11_3__322 := Hct_11_3__322.out
          clear Hct_11_3__322
          replace ct_11_4__323 := Hct_11_4__323.out
          clear Hct_11_4__323
          replace ct_11_5__324 := Hct_11_5__324.out
          clear Hct_11_5__324
          replace ke_13_0 := Hke_13_0.out
          clear Hke_13_0
          replace ke_13_1 := Hke_13_1.out
          clear Hke_13_1
          replace ke_13_2 := Hke_13_2.out
          clear Hke_13_2
          replace ke_13_3 := Hke_13_3.out
          clear Hke_13_3
          replace ke_13_4 := Hke_13_4.out
          clear Hke_13_4
          replace ke_13_5 := Hke_13_5.out
          clear Hke_13_5
          have HBY6 := Lib.hid (Below.step HBw_e_13.out hY6)
          replace ct_11_0__319 := cell_below hY6 ct_11_0__319
          replace ct_11_1__320 := cell_below hY6 ct_11_1__320
          replace ct_11_2__321 := cell_below hY6 ct_11_2__321
          replace ct_11_3__322 := cell_below hY6 ct_11_3__322
          replace ct_11_4__323 := cell_below hY6 ct_11_4__323
          replace ct_11_5__324 := cell_below hY6 ct_11_5__324
          replace ke_13_0 := cell_below hY6 ke_13_0
          replace ke_13_1 := cell_below hY6 ke_13_1
          replace ke_13_2 := cell_below hY6 ke_13_2
          replace ke_13_3 := cell_below hY6 ke_13_3
          replace ke_13_4 := cell_below hY6 ke_13_4
          replace ke_13_5 := cell_below hY6 ke_13_5
          clear hY6
          replace H := ite_t H
          obtain rfl := ret_hid H
          go_wp2_with fail
          go_ret
          exact ⟨rfl, HBY6.out⟩
        | true =>
          replace H := let_hid H
          obtain ⟨t_19, ht_19, H⟩ := H
          obtain rfl : t_19 = false := ht_19.symm
          replace H := join_hid H
          replace H := ite_f H
          replace H := let_hid H
          obtain ⟨t_22, ht_22, H⟩ := H
          replace H := join_hid H
          cases t_22 with
          | false =>
            have nht_22 : ¬ (0 < k0) := by have := of_decide_eq_false ht_22; omega
            replace H := ite_f H
            replace H := app_hid H
            replace H := app_hid H
            refine wp_region_quiet_below (by kernel_rfl) (by kernel_rfl) ?_
            repeat (go_big_quiet_step (first | (go_at_call 46; exact nt_18 _ _)))
            refine wpQuiet_nil ?_
            intro Y6 hY6
            replace hY6 := below_class hY6
            clear nt_18
            replace ct_11_0__319 := Hct_11_0__319.out
            clear Hct_11_0__319
            replace ct_11_1__320 := Hct_11_1__320.out
            clear Hct_11_1__320
            replace ct_11_2__321 := Hct_11_2__321.out
            clear Hct_11_2__321
            replace ct_11_3__322 := Hct_11_3__322.out
            clear Hct_11_3__322
            replace ct_11_4__323 := Hct_11_4__323.out
            clear Hct_11_4__323
            replace ct_11_5__324 := Hct_11_5__324.out
            clear Hct_11_5__324
            replace ke_13_0 := Hke_13_0.out
            clear Hke_13_0
            replace ke_13_1 := Hke_13_1.out
            clear Hke_13_1
            replace ke_13_2 := Hke_13_2.out
            clear Hke_13_2
            replace ke_13_3 := Hke_13_3.out
            clear Hke_13_3
            replace ke_13_4 := Hke_13_4.out
            clear Hke_13_4
            replace ke_13_5 := Hke_13_5.out
            clear Hke_13_5
            have HBY6 := Lib.hid (Below.step HBw_e_13.out hY6)
            replace ct_11_0__319 := cell_below hY6 ct_11_0__319
            replace ct_11_1__320 := cell_below hY6 ct_11_1__320
            replace ct_11_2__321 := cell_below hY6 ct_11_2__321
            replace ct_11_3__322 := cell_below hY6 ct_11_3__322
            replace ct_11_4__323 := cell_below hY6 ct_11_4__323
            replace ct_11_5__324 := cell_below hY6 ct_11_5__324
            replace ke_13_0 := cell_below hY6 ke_13_0
            replace ke_13_1 := cell_below hY6 ke_13_1
            replace ke_13_2 := cell_below hY6 ke_13_2
            replace ke_13_3 := cell_below hY6 ke_13_3
            replace ke_13_4 := cell_below hY6 ke_13_4
            replace ke_13_5 := cell_below hY6 ke_13_5
            clear hY6
            replace H := ite_f H
            replace H := app_hid H
            go_wp2_with fail
            go_roundg m0
            case measure => omega
            case rel => exact ⟨k0 + 1, by omega, by go_num, H, HBY6⟩
          | true =>
            have nht_22 : 0 < k0 := by have := of_decide_eq_true ht_22; omega
            replace H := ite_t H
            replace H := bind_hid H
            obtain ⟨t_26, qt_26, H⟩ := H
            have nt_26 : ∀ d os, Calls Tryz.prog 61 #[.agg #[.int .i64 t_11_id, .string t_11_town, .int .i64 t_11_kind_, .int .i64 t_11_first, .int .i64 t_11_last, .string t_11_lost]] (Go.Sort.grow (redrawn w_e_13 d) os) fun e w'' => e = .returned (.int .i64 t_26) ∧ ∃ p : Regrown, w'' = Go.Sort.grow (redrawn w_e_13 p.d) p.os := fun d os => Calls.regrown_of (Go.Proofs.YtgimcnpkngpmiaaGreatDoor.GiIdOfPostmark.C ((Go.Proofs.YtgimcnpkngpmiaaGreatDoor.PPostmark.Postmark.mk t_11_id t_11_town t_11_kind_ t_11_first t_11_last t_11_lost))  _    qt_26)
            replace H := let_hid H
            obtain ⟨t_30, ht_30, H⟩ := H
            replace H := idx_hid H
            obtain ⟨nt_31, yt_31, et_31, lt_31, gt_31, H⟩ := H
            subst et_31
            obtain ⟨t_31_id, t_31_town, t_31_kind_, t_31_first, t_31_last, t_31_lost⟩ := yt_31
            replace H := unPostmark_hid H
            obtain ⟨ab_t_31, ao_t_31, zt_31, At_31, z_t_31, ct_31_0, ct_31_1, ct_31_2, ct_31_3, ct_31_4, ct_31_5⟩ := Go.Proofs.YtgimcnpkngpmiaaGreatDoor.OPostmark.at_ M0.out lt_31
            obtain rfl := Option.some.inj (gt_31.out.symm.trans z_t_31)
            simp only [Option.some.injEq, Addr.mk.injEq] at At_31
            obtain ⟨rfl, rfl, _⟩ := At_31
            have ltt_31 := cell_lt ct_31_0
            replace ct_31_0 := cell_below HBw_e_13.out ct_31_0
            replace ct_31_1 := cell_below HBw_e_13.out ct_31_1
            replace ct_31_2 := cell_below HBw_e_13.out ct_31_2
            replace ct_31_3 := cell_below HBw_e_13.out ct_31_3
            replace ct_31_4 := cell_below HBw_e_13.out ct_31_4
            replace ct_31_5 := cell_below HBw_e_13.out ct_31_5
            clear z_t_31
            have b0t_31 : (0 : Int) ≤ (nt_31 : Int) := by omega
            have b1t_31 : (nt_31 : Int) < ((list.length : Nat) : Int) := by omega
            have b2t_31 : ((nt_31 : Int)).toNat = nt_31 := by omega
            have Hct_31_0 := Lib.hid ct_31_0
            replace ct_31_0 := cell_regrown ct_31_0
            have Hct_31_1 := Lib.hid ct_31_1
            replace ct_31_1 := cell_regrown ct_31_1
            have Hct_31_2 := Lib.hid ct_31_2
            replace ct_31_2 := cell_regrown ct_31_2
            have Hct_31_3 := Lib.hid ct_31_3
            replace ct_31_3 := cell_regrown ct_31_3
            have Hct_31_4 := Lib.hid ct_31_4
            replace ct_31_4 := cell_regrown ct_31_4
            have Hct_31_5 := Lib.hid ct_31_5
            replace ct_31_5 := cell_regrown ct_31_5
            replace H := bind_hid H
            obtain ⟨t_33, qt_33, H⟩ := H
            have nt_33 : ∀ d os, Calls Tryz.prog 61 #[.agg #[.int .i64 t_31_id, .string t_31_town, .int .i64 t_31_kind_, .int .i64 t_31_first, .int .i64 t_31_last, .string t_31_lost]] (Go.Sort.grow (redrawn w_e_13 d) os) fun e w'' => e = .returned (.int .i64 t_33) ∧ ∃ p : Regrown, w'' = Go.Sort.grow (redrawn w_e_13 p.d) p.os := fun d os => Calls.regrown_of (Go.Proofs.YtgimcnpkngpmiaaGreatDoor.GiIdOfPostmark.C ((Go.Proofs.YtgimcnpkngpmiaaGreatDoor.PPostmark.Postmark.mk t_31_id t_31_town t_31_kind_ t_31_first t_31_last t_31_lost))  _    qt_33)
            replace H := let_hid H
            obtain ⟨t_34, ht_34, H⟩ := H
            replace H := app_hid H
            replace H := app_hid H
            refine wp_region_quiet_below (by kernel_rfl) (by kernel_rfl) ?_
            repeat (go_big_quiet_step (first | (go_at_call 61; with_reducible exact nt_26 _ _) | (go_at_call 61; with_reducible exact nt_33 _ _) | (go_at_call 46; exact nt_18 _ _) | (go_at_call 61; exact nt_26 _ _) | (go_at_call 61; exact nt_33 _ _)))
            refine wpQuiet_nil ?_
            intro Y6 hY6
            replace hY6 := below_class hY6
            clear nt_18 nt_26 nt_33
            replace ct_11_0__319 := Hct_11_0__319.out
            clear Hct_11_0__319
            replace ct_11_1__320 := Hct_11_1__320.out
            clear Hct_11_1__320
            replace ct_11_2__321 := Hct_11_2__321.out
            clear Hct_11_2__321
            replace ct_11_3__322 := Hct_11_3__322.out
            clear Hct_11_3__322
            replace ct_11_4__323 := Hct_11_4__323.out
            clear Hct_11_4__323
            replace ct_11_5__324 := Hct_11_5__324.out
            clear Hct_11_5__324
            replace ke_13_0 := Hke_13_0.out
            clear Hke_13_0
            replace ke_13_1 := Hke_13_1.out
            clear Hke_13_1
            replace ke_13_2 := Hke_13_2.out
            clear Hke_13_2
            replace ke_13_3 := Hke_13_3.out
            clear Hke_13_3
            replace ke_13_4 := Hke_13_4.out
            clear Hke_13_4
            replace ke_13_5 := Hke_13_5.out
            clear Hke_13_5
            replace ct_31_0 := Hct_31_0.out
            clear Hct_31_0
            replace ct_31_1 := Hct_31_1.out
            clear Hct_31_1
            replace ct_31_2 := Hct_31_2.out
            clear Hct_31_2
            replace ct_31_3 := Hct_31_3.out
            clear Hct_31_3
            replace ct_31_4 := Hct_31_4.out
            clear Hct_31_4
            replace ct_31_5 := Hct_31_5.out
            clear Hct_31_5
            have HBY6 := Lib.hid (Below.step HBw_e_13.out hY6)
            replace ct_11_0__319 := cell_below hY6 ct_11_0__319
            replace ct_11_1__320 := cell_below hY6 ct_11_1__320
            replace ct_11_2__321 := cell_below hY6 ct_11_2__321
            replace ct_11_3__322 := cell_below hY6 ct_11_3__322
            replace ct_11_4__323 := cell_below hY6 ct_11_4__323
            replace ct_11_5__324 := cell_below hY6 ct_11_5__324
            replace ke_13_0 := cell_below hY6 ke_13_0
            replace ke_13_1 := cell_below hY6 ke_13_1
            replace ke_13_2 := cell_below hY6 ke_13_2
            replace ke_13_3 := cell_below hY6 ke_13_3
            replace ke_13_4 := cell_below hY6 ke_13_4
            replace ke_13_5 := cell_below hY6 ke_13_5
            replace ct_31_0 := cell_below hY6 ct_31_0
            replace ct_31_1 := cell_below hY6 ct_31_1
            replace ct_31_2 := cell_below hY6 ct_31_2
            replace ct_31_3 := cell_below hY6 ct_31_3
            replace ct_31_4 := cell_below hY6 ct_31_4
            replace ct_31_5 := cell_below hY6 ct_31_5
            clear hY6
            cases t_34 with
            | false =>
              replace H := ite_f H
              replace H := app_hid H
              go_wp2_with fail
              go_roundg m0
              case measure => omega
              case rel => exact ⟨k0 + 1, by omega, by go_num, H, HBY6⟩
            | true =>
              replace H := ite_t H
              obtain rfl := ret_hid H
              go_wp2_with fail
              go_ret
              exact ⟨rfl, HBY6.out⟩
  | true =>
    replace H := ite_t H
    obtain rfl := ret_hid H
    go_wp2_with fail
    go_ret
    exact ⟨rfl, HB.out⟩
end Go.Proofs.YtgimcnpkngpmiaaGreatDoor.GiAreByKeyPostmarkIntiIsPostmarkiIdOfPostmark

/- loop.example/g01062/impl.ArePostmarks as a plain function, and the contract of the program's: where the plain one has an answer, the program has it. Conditions: slices read as lists. -/
namespace Go.Proofs.YtgimcnpkngpmiaaGreatDoor.GiArePostmarks
set_option linter.unusedVariables false
set_option linter.unusedSimpArgs false
open Go.RowKit
open Go.Proofs.YtgimcnpkngpmiaaGreatDoor.Rowed Go.Proofs.YtgimcnpkngpmiaaGreatDoor.Turn Go.Proofs.YtgimcnpkngpmiaaGreatDoor.Aid Go.Proofs.YtgimcnpkngpmiaaGreatDoor.GoP Go.Proofs.YtgimcnpkngpmiaaGreatDoor.GoM

def P (list : (List Go.Proofs.YtgimcnpkngpmiaaGreatDoor.PPostmark.Postmark)) : Option (Bool) :=
  Option.bind (Go.Proofs.YtgimcnpkngpmiaaGreatDoor.GiAreByKeyPostmarkIntiIsPostmarkiIdOfPostmark.P list 12) fun (t_2 : Bool) =>
  some t_2

set_option maxRecDepth 100000 in
set_option maxHeartbeats 2000000 in
theorem C (list : (List Go.Proofs.YtgimcnpkngpmiaaGreatDoor.PPostmark.Postmark)) (A0 : Option Addr) (c0 : Nat)  (w : World) (M0 : Hid (Cells w 6 A0 list.length (Go.Proofs.YtgimcnpkngpmiaaGreatDoor.PPostmark.flat list))) (N0 : Hid (list.length ≤ 9223372036854775807))  {r : Bool} (H : Hid (P list = some r)) :
    Calls Tryz.prog 31 #[.slice A0 list.length c0] w (Gives (.bool r) w) := by
  have HB := Lib.hid (Below.refl w.heap.size w)
  unfold P at H
  have N0o := N0.out
  go_enter Tryz.func31, Tryz.ntmps31
  replace H := bind_hid H
  obtain ⟨t_2, qt_2, H⟩ := H
  go_wp2_with fail
  go_at_call 60
  refine (Go.Proofs.YtgimcnpkngpmiaaGreatDoor.GiAreByKeyPostmarkIntiIsPostmarkiIdOfPostmark.C (list) (12) A0 c0 _   (Lib.hid (Cells.below M0.out HB.out)) N0 qt_2).mono ?_
  rintro e_t_2 wt_2 ⟨rfl, bt_2⟩
  have HBwt_2 := Lib.hid (Below.step HB.out bt_2)
  clear bt_2
  obtain rfl := ret_hid H
  go_wp2_with fail
  go_ret
  exact ⟨rfl, HBwt_2.out⟩
end Go.Proofs.YtgimcnpkngpmiaaGreatDoor.GiArePostmarks

/- loop.example/g01062/impl.indexOfPostmark$1 as a plain function, and the contract of the program's: where the plain one has an answer, the program has it. Conditions: slices read as lists. -/
namespace Go.Proofs.YtgimcnpkngpmiaaGreatDoor.GiIndexOfPostmark1
set_option linter.unusedVariables false
set_option linter.unusedSimpArgs false
open Go.RowKit
open Go.Proofs.YtgimcnpkngpmiaaGreatDoor.Rowed Go.Proofs.YtgimcnpkngpmiaaGreatDoor.Turn Go.Proofs.YtgimcnpkngpmiaaGreatDoor.Aid Go.Proofs.YtgimcnpkngpmiaaGreatDoor.GoP Go.Proofs.YtgimcnpkngpmiaaGreatDoor.GoM

def P (p : Go.Proofs.YtgimcnpkngpmiaaGreatDoor.PPostmark.Postmark) (hq0 : Int) : Option (Bool) :=
  unPostmark p fun (p_id : Int) (p_town : ByteArray) (p_kind_ : Int) (p_first : Int) (p_last : Int) (p_lost : ByteArray) =>
  letK (p_id == hq0) fun (t_5 : Bool) =>
  some t_5

set_option maxRecDepth 100000 in
set_option maxHeartbeats 2000000 in
theorem C (p : Go.Proofs.YtgimcnpkngpmiaaGreatDoor.PPostmark.Postmark) (hq0 : Int)  (gq0 : Nat) (w : World)  (Fq0h : Hid (w.cell? ⟨gq0, 0, none⟩ = some (.int .i64 hq0))) {r : Bool} (H : Hid (P p hq0 = some r)) :
    Calls Tryz.prog 57 #[p.val, .pointer (some ⟨gq0, 0, none⟩)] w (Gives (.bool r) w) := by
  have HB := Lib.hid (Below.refl w.heap.size w)
  unfold P at H
  obtain ⟨p_id, p_town, p_kind_, p_first, p_last, p_lost⟩ := p
  replace H := unPostmark_hid H
  unfold Go.Proofs.YtgimcnpkngpmiaaGreatDoor.PPostmark.Postmark.val
  have Fq0 := Fq0h.out
  go_enter Tryz.func57, Tryz.ntmps57
  obtain ⟨w_p_0, hw_p_0⟩ : ∃ x, w.alloc (.cells #[.int .i64 p_id, .string p_town, .int .i64 p_kind_, .int .i64 p_first, .int .i64 p_last, .string p_lost] 34) = x := ⟨_, rfl⟩
  have bw_p_0 : Below w.heap.size w w_p_0 := by rw [← hw_p_0]; exact (Below.refl _ _).alloc (Nat.le_refl _) _
  have HBw_p_0 := Lib.hid (Below.step HB.out bw_p_0)
  have Fq0__325 := cell_below bw_p_0 Fq0
  clear bw_p_0
  have kp_0_0 : w_p_0.cell? ⟨w.heap.size, 0, none⟩ = some (.int .i64 p_id) := by rw [← hw_p_0]; exact box_new _ _ _ 0 _ rfl
  have kp_0_1 : w_p_0.cell? ⟨w.heap.size, 1, none⟩ = some (.string p_town) := by rw [← hw_p_0]; exact box_new _ _ _ 1 _ rfl
  have kp_0_2 : w_p_0.cell? ⟨w.heap.size, 2, none⟩ = some (.int .i64 p_kind_) := by rw [← hw_p_0]; exact box_new _ _ _ 2 _ rfl
  have kp_0_3 : w_p_0.cell? ⟨w.heap.size, 3, none⟩ = some (.int .i64 p_first) := by rw [← hw_p_0]; exact box_new _ _ _ 3 _ rfl
  have kp_0_4 : w_p_0.cell? ⟨w.heap.size, 4, none⟩ = some (.int .i64 p_last) := by rw [← hw_p_0]; exact box_new _ _ _ 4 _ rfl
  have kp_0_5 : w_p_0.cell? ⟨w.heap.size, 5, none⟩ = some (.string p_lost) := by rw [← hw_p_0]; exact box_new _ _ _ 5 _ rfl
  replace H := let_hid H
  obtain ⟨t_5, ht_5, H⟩ := H
  obtain rfl := ret_hid H
  go_wp2_with fail
  go_ret
  exact ⟨rfl, HBw_p_0.out⟩
end Go.Proofs.YtgimcnpkngpmiaaGreatDoor.GiIndexOfPostmark1

/- slices.IndexFunc[[]loop.example/g01062/impl.Postmark,loop.example/g01062/impl.Postmark] as a plain function, and the contract of the program's: where the plain one has an answer, the program has it. Conditions: slices read as lists. -/
namespace Go.Proofs.YtgimcnpkngpmiaaGreatDoor.GxSlicesIndexFuncLoopExampleG01062ImplPostmarkLoopExampleG01062ImplPostmarkiIndexOfPostmark1
set_option linter.unusedVariables false
set_option linter.unusedSimpArgs false
open Go.RowKit
open Go.Proofs.YtgimcnpkngpmiaaGreatDoor.Rowed Go.Proofs.YtgimcnpkngpmiaaGreatDoor.Turn Go.Proofs.YtgimcnpkngpmiaaGreatDoor.Aid Go.Proofs.YtgimcnpkngpmiaaGreatDoor.GoP Go.Proofs.YtgimcnpkngpmiaaGreatDoor.GoM

def l0 (s_0 : (List Go.Proofs.YtgimcnpkngpmiaaGreatDoor.PPostmark.Postmark)) (hf1_0 : Int) (k0 : Nat) (s : Unit) (nx0 bk0 : Unit → Option (Int)) : Option (Int) :=
  
  Option.bind (idx s_0 (k0 : Int)) fun (yt_10 : Go.Proofs.YtgimcnpkngpmiaaGreatDoor.PPostmark.Postmark) =>
  unPostmark yt_10 fun (t_10_id : Int) (t_10_town : ByteArray) (t_10_kind_ : Int) (t_10_first : Int) (t_10_last : Int) (t_10_lost : ByteArray) =>
  Option.bind (Go.Proofs.YtgimcnpkngpmiaaGreatDoor.GiIndexOfPostmark1.P (Go.Proofs.YtgimcnpkngpmiaaGreatDoor.PPostmark.Postmark.mk t_10_id t_10_town t_10_kind_ t_10_first t_10_last t_10_lost) hf1_0) fun (t_12 : Bool) =>
  iteK t_12
  (some (k0 : Int))
  (appK nx0 ())

def e0  (s : Unit) : Option (Int) :=
  
  some (-1)

def P (s_0 : (List Go.Proofs.YtgimcnpkngpmiaaGreatDoor.PPostmark.Postmark)) (hf1_0 : Int) : Option (Int) :=
  cntK (l0 s_0 hf1_0) (s_0.length) 0 () (e0 )

set_option maxRecDepth 100000 in
set_option maxHeartbeats 2000000 in
theorem C (s_0 : (List Go.Proofs.YtgimcnpkngpmiaaGreatDoor.PPostmark.Postmark)) (hf1_0 : Int) (A0 : Option Addr) (c0 : Nat) (gf1_0 : Nat) (w : World) (M0 : Hid (Cells w 6 A0 s_0.length (Go.Proofs.YtgimcnpkngpmiaaGreatDoor.PPostmark.flat s_0))) (N0 : Hid (s_0.length ≤ 9223372036854775807)) (Ff1_0h : Hid (w.cell? ⟨gf1_0, 0, none⟩ = some (.int .i64 hf1_0))) {r : Int} (H : Hid (P s_0 hf1_0 = some r)) :
    Calls Tryz.prog 56 #[.slice A0 s_0.length c0, .func (.func 57) #[] #[.pointer (some ⟨gf1_0, 0, none⟩)]] w (Gives (.int .i64 r) w) := by
  have HB := Lib.hid (Below.refl w.heap.size w)
  unfold P at H
  have N0o := N0.out
  have Ff1_0 := Ff1_0h.out
  go_enter Tryz.func56, Tryz.ntmps56
  go_wp2_with fail
  go_loopg [8] (s_0.length) (fun m_ v8_ wr => ∃ (k0 : Nat) , k0 + m_ = s_0.length ∧ v8_ = .int .i64 (k0 : Int) ∧ Hid (cntK (l0 s_0 hf1_0) m_ k0 () (e0 ) = some r) ∧ Hid (Below w.heap.size w wr) ∧ wr.cell? ⟨gf1_0, 0, none⟩ = some (.int .i64 hf1_0))
  case atStart => exact ⟨0, by omega, rfl, H, HB, Ff1_0⟩
  case round =>
    obtain ⟨k0, hkm0, rfl, H, HBwr0, Ff1_0⟩ := hrel
    rename World => wr0
    cases gk with
    | zero =>
      obtain rfl : k0 = s_0.length := by omega
      have hc0 : decide (((s_0.length : Nat) : Int) < ((s_0.length : Nat) : Int)) = false := by simp
      replace H := cnt_zero H
      unfold e0 at H
      obtain rfl := ret_hid H
      go_wp2_with fail
      go_ret
      exact ⟨rfl, HBwr0.out⟩
    | succ m0 =>
      have hlt0 : k0 < s_0.length := by omega
      have hc0 : decide ((k0 : Int) < ((s_0.length : Nat) : Int)) = true := by simp; omega
      replace H := cnt_succ H
      unfold l0 at H
      replace H := idx_hid H
      obtain ⟨nt_10, yt_10, et_10, lt_10, gt_10, H⟩ := H
      obtain rfl : k0 = nt_10 := by omega
      clear et_10
      obtain ⟨t_10_id, t_10_town, t_10_kind_, t_10_first, t_10_last, t_10_lost⟩ := yt_10
      replace H := unPostmark_hid H
      obtain ⟨ab_t_10, ao_t_10, zt_10, At_10, z_t_10, ct_10_0, ct_10_1, ct_10_2, ct_10_3, ct_10_4, ct_10_5⟩ := Go.Proofs.YtgimcnpkngpmiaaGreatDoor.OPostmark.at_ M0.out lt_10
      obtain rfl := Option.some.inj (gt_10.out.symm.trans z_t_10)
      subst At_10
      have ltt_10 := cell_lt ct_10_0
      replace ct_10_0 := cell_below HBwr0.out ct_10_0
      replace ct_10_1 := cell_below HBwr0.out ct_10_1
      replace ct_10_2 := cell_below HBwr0.out ct_10_2
      replace ct_10_3 := cell_below HBwr0.out ct_10_3
      replace ct_10_4 := cell_below HBwr0.out ct_10_4
      replace ct_10_5 := cell_below HBwr0.out ct_10_5
      clear z_t_10
      have b0t_10 : (0 : Int) ≤ (k0 : Int) := by omega
      have b1t_10 : (k0 : Int) < ((s_0.length : Nat) : Int) := by omega
      have b2t_10 : ((k0 : Int)).toNat = k0 := by omega
      replace H := bind_hid H
      obtain ⟨t_12, qt_12, H⟩ := H
      go_wp2_with fail
      go_at_call 57
      refine (Go.Proofs.YtgimcnpkngpmiaaGreatDoor.GiIndexOfPostmark1.C ((Go.Proofs.YtgimcnpkngpmiaaGreatDoor.PPostmark.Postmark.mk t_10_id t_10_town t_10_kind_ t_10_first t_10_last t_10_lost)) (hf1_0) (gf1_0) _   (Lib.hid Ff1_0) qt_12).mono ?_
      rintro e_t_12 wt_12 ⟨rfl, bt_12⟩
      have HBwt_12 := Lib.hid (Below.step HBwr0.out bt_12)
      replace Ff1_0 := cell_below bt_12 Ff1_0
      replace ct_10_0 := cell_below bt_12 ct_10_0
      replace ct_10_1 := cell_below bt_12 ct_10_1
      replace ct_10_2 := cell_below bt_12 ct_10_2
      replace ct_10_3 := cell_below bt_12 ct_10_3
      replace ct_10_4 := cell_below bt_12 ct_10_4
      replace ct_10_5 := cell_below bt_12 ct_10_5
      clear bt_12
      cases t_12 with
      | false =>
        replace H := ite_f H
        replace H := app_hid H
        go_wp2_with fail
        go_roundg m0
        case measure => omega
        case rel => exact ⟨k0 + 1, by omega, by go_num, H, HBwt_12, Ff1_0⟩
      | true =>
        replace H := ite_t H
        obtain rfl := ret_hid H
        go_wp2_with fail
        go_ret
        exact ⟨rfl, HBwt_12.out⟩
end Go.Proofs.YtgimcnpkngpmiaaGreatDoor.GxSlicesIndexFuncLoopExampleG01062ImplPostmarkLoopExampleG01062ImplPostmarkiIndexOfPostmark1

/- loop.example/g01062/impl.indexOfPostmark as a plain function, and the contract of the program's: where the plain one has an answer, the program has it. Conditions: slices read as lists. -/
namespace Go.Proofs.YtgimcnpkngpmiaaGreatDoor.GiIndexOfPostmark
set_option linter.unusedVariables false
set_option linter.unusedSimpArgs false
open Go.RowKit
open Go.Proofs.YtgimcnpkngpmiaaGreatDoor.Rowed Go.Proofs.YtgimcnpkngpmiaaGreatDoor.Turn Go.Proofs.YtgimcnpkngpmiaaGreatDoor.Aid Go.Proofs.YtgimcnpkngpmiaaGreatDoor.GoP Go.Proofs.YtgimcnpkngpmiaaGreatDoor.GoM

def P (list : (List Go.Proofs.YtgimcnpkngpmiaaGreatDoor.PPostmark.Postmark)) (id : Int) : Option (Int) :=
  Option.bind (Go.Proofs.YtgimcnpkngpmiaaGreatDoor.GiArePostmarks.P list) fun (t_3 : Bool) =>
  letK (!t_3) fun (t_4 : Bool) =>
  iteK t_4
  (some (-1))
  (Option.bind (Go.Proofs.YtgimcnpkngpmiaaGreatDoor.GxSlicesIndexFuncLoopExampleG01062ImplPostmarkLoopExampleG01062ImplPostmarkiIndexOfPostmark1.P list id) fun (t_8 : Int) =>
  some t_8)

set_option maxRecDepth 100000 in
set_option maxHeartbeats 2000000 in
theorem C (list : (List Go.Proofs.YtgimcnpkngpmiaaGreatDoor.PPostmark.Postmark)) (id : Int) (A0 : Option Addr) (c0 : Nat)  (w : World) (M0 : Hid (Cells w 6 A0 list.length (Go.Proofs.YtgimcnpkngpmiaaGreatDoor.PPostmark.flat list))) (N0 : Hid (list.length ≤ 9223372036854775807))  {r : Int} (H : Hid (P list id = some r)) :
    Calls Tryz.prog 23 #[.slice A0 list.length c0, .int .i64 id] w (Gives (.int .i64 r) w) := by
  have HB := Lib.hid (Below.refl w.heap.size w)
  unfold P at H
  have N0o := N0.out
  go_enter Tryz.func23, Tryz.ntmps23
  obtain ⟨w_id_0, hw_id_0⟩ : ∃ x, w.alloc (.cells #[.int .i64 id] 3) = x := ⟨_, rfl⟩
  have bw_id_0 : Below w.heap.size w w_id_0 := by rw [← hw_id_0]; exact (Below.refl _ _).alloc (Nat.le_refl _) _
  have HBw_id_0 := Lib.hid (Below.step HB.out bw_id_0)
  clear bw_id_0
  have kid_0_0 : w_id_0.cell? ⟨w.heap.size, 0, none⟩ = some (.int .i64 id) := by rw [← hw_id_0]; exact box_new _ _ _ 0 _ rfl
  replace H := bind_hid H
  obtain ⟨t_3, qt_3, H⟩ := H
  go_wp2_with fail
  go_at_call 31
  refine (Go.Proofs.YtgimcnpkngpmiaaGreatDoor.GiArePostmarks.C (list) A0 c0 _   (Lib.hid (Cells.below M0.out HBw_id_0.out)) N0 qt_3).mono ?_
  rintro e_t_3 wt_3 ⟨rfl, bt_3⟩
  have HBwt_3 := Lib.hid (Below.step HBw_id_0.out bt_3)
  replace kid_0_0 := cell_below bt_3 kid_0_0
  clear bt_3
  cases t_3 with
  | false =>
    replace H := let_hid H
    obtain ⟨t_4, ht_4, H⟩ := H
    obtain rfl : t_4 = true := ht_4.symm
    replace H := ite_t H
    obtain rfl := ret_hid H
    go_wp2_with fail
    go_ret
    exact ⟨rfl, HBwt_3.out⟩
  | true =>
    replace H := let_hid H
    obtain ⟨t_4, ht_4, H⟩ := H
    obtain rfl : t_4 = false := ht_4.symm
    replace H := ite_f H
    replace H := bind_hid H
    obtain ⟨t_8, qt_8, H⟩ := H
    go_wp2_with fail
    go_at_call 56
    refine (Go.Proofs.YtgimcnpkngpmiaaGreatDoor.GxSlicesIndexFuncLoopExampleG01062ImplPostmarkLoopExampleG01062ImplPostmarkiIndexOfPostmark1.C (list) (id) A0 c0 (w.heap.size) _   (Lib.hid (Cells.below M0.out HBwt_3.out)) N0 (Lib.hid kid_0_0) qt_8).mono ?_
    rintro e_t_8 wt_8 ⟨rfl, bt_8⟩
    have HBwt_8 := Lib.hid (Below.step HBwt_3.out bt_8)
    replace kid_0_0 := cell_below bt_8 kid_0_0
    clear bt_8
    obtain rfl := ret_hid H
    go_wp2_with fail
    go_ret
    exact ⟨rfl, HBwt_8.out⟩
end Go.Proofs.YtgimcnpkngpmiaaGreatDoor.GiIndexOfPostmark

/- More words for the contracts of plain functions: a test against nil, a row that is handed over, a row whose end is cleared. No condition. -/
namespace Go.Proofs.YtgimcnpkngpmiaaGreatDoor.GoK
set_option linter.unusedVariables false
open Go.RowKit
open Go.Proofs.YtgimcnpkngpmiaaGreatDoor.Rowed Go.Proofs.YtgimcnpkngpmiaaGreatDoor.Turn Go.Proofs.YtgimcnpkngpmiaaGreatDoor.GoM

/-- a test of a row against nil: only an empty row can be nil, and then both ways have one answer -/
def nilK {α ρ : Type} (l : List α) (f : Bool → Option ρ) : Option ρ := f false
theorem nilK_hid {α ρ : Type} {l : List α} {f : Bool → Option ρ} {r : ρ} (H : Hid (nilK l f = some r)) (b : Bool) (hb : b = true → l = []) (he : l = [] → f true = f false) : Hid (f b = some r) := by
  have h : f false = some r := H
  cases b with
  | false => exact h
  | true => exact (he (hb rfl)).trans h
theorem nil_cells {w : World} {K n : Nat} {A : Option Addr} {α : Type} {l : List α} {cs : List Value} (h : Cells w K A n cs) (hl : cs = [] → l = []) : A.isNone = true → l = [] := by
  intro hA
  refine hl ?_
  cases hc : cs with
  | nil => rfl
  | cons y ys => obtain ⟨a, e, _⟩ := h.2 (by rw [hc]; simp); rw [e] at hA; simp at hA
/-- where a row lies that a function hands on: where another one lay, or behind all that was there -/
def From (w : World) (A A' : Option Addr) : Prop := ∀ a', A' = some a' → (∃ a, A = some a ∧ a.block = a'.block) ∨ w.heap.size ≤ a'.block
theorem from_self {w : World} {A : Option Addr} : From w A A := fun a h => .inl ⟨a, h, rfl⟩
theorem apart_from {w : World} {A A' B : Option Addr} (hD : Apart A B) (hB : ∀ a, B = some a → a.block < w.heap.size) (h : From w A A') : Apart A' B := by
  intro a a' ha ha' e
  have hl := hB a' ha'
  rcases h a ha with ⟨a2, h2, e2⟩ | h2
  · exact hD a2 a' h2 ha' (e2.trans e)
  · omega
theorem own_setCells {b T K n c g : Nat} : ∀ (vs : List Value) (o : Nat) {w : World} {xs : List Value}, w.ownsRow b T K (.slice (some ⟨g, 0, none⟩) n c) n xs → o + vs.length ≤ xs.length →
    (w.setCells g o vs).ownsRow b T K (.slice (some ⟨g, 0, none⟩) n c) n (xs.take o ++ vs ++ xs.drop (o + vs.length)) ∧ w.grownBy (w.setCells g o vs) (some g) := by
  intro vs
  induction vs with
  | nil => intro o w xs h _; exact ⟨by simpa [World.setCells] using h, Aid.grown_refl _ _⟩
  | cons v vs ih =>
    intro o w xs h hl
    simp only [List.length_cons] at hl
    have h1 := h.stored o v
    have h2 := ih (o + 1) h1.1 (by rw [List.length_set]; omega)
    refine ⟨?_, Aid.grown_tr h1.2 h2.2⟩
    have e : (xs.set o v).take (o + 1) ++ vs ++ (xs.set o v).drop (o + 1 + vs.length) = xs.take o ++ (v :: vs) ++ xs.drop (o + (v :: vs).length) := by
      have ho : o < xs.length := by omega
      rw [List.drop_set_of_lt (by omega), List.take_add_one, List.getElem?_set_self ho, List.take_set_of_le (Nat.le_refl _)]
      simp [Nat.add_comm, Nat.add_left_comm]
    rw [← e]
    exact h2.1
end Go.Proofs.YtgimcnpkngpmiaaGreatDoor.GoK

/- slices.Clone[[]loop.example/g01062/impl.Postmark,loop.example/g01062/impl.Postmark] as a plain function, and the contract of the program's: where the plain one has an answer, the program has it. Conditions: slices read as lists. -/
namespace Go.Proofs.YtgimcnpkngpmiaaGreatDoor.GxSlicesCloneLoopExampleG01062ImplPostmarkLoopExampleG01062ImplPostmark
set_option linter.unusedVariables false
set_option linter.unusedSimpArgs false
open Go.RowKit
open Go.Proofs.YtgimcnpkngpmiaaGreatDoor.Rowed Go.Proofs.YtgimcnpkngpmiaaGreatDoor.Turn Go.Proofs.YtgimcnpkngpmiaaGreatDoor.Aid Go.Proofs.YtgimcnpkngpmiaaGreatDoor.GoP Go.Proofs.YtgimcnpkngpmiaaGreatDoor.GoM

def P (s_0 : (List Go.Proofs.YtgimcnpkngpmiaaGreatDoor.PPostmark.Postmark)) : Option ((List Go.Proofs.YtgimcnpkngpmiaaGreatDoor.PPostmark.Postmark)) :=
  Go.Proofs.YtgimcnpkngpmiaaGreatDoor.GoK.nilK s_0 fun (nt_2 : Bool) =>
  iteK nt_2
  (some [])
  (guardK (([] : List Go.Proofs.YtgimcnpkngpmiaaGreatDoor.PPostmark.Postmark).length + s_0.length ≤ 1099511627776) <|
  letK (([] : List Go.Proofs.YtgimcnpkngpmiaaGreatDoor.PPostmark.Postmark) ++ s_0) fun (t_6 : (List Go.Proofs.YtgimcnpkngpmiaaGreatDoor.PPostmark.Postmark)) =>
  some t_6)

set_option maxRecDepth 100000 in
set_option maxHeartbeats 2000000 in
theorem C (s_0 : (List Go.Proofs.YtgimcnpkngpmiaaGreatDoor.PPostmark.Postmark)) (A0 : Option Addr) (c0 : Nat)  (w : World) (M0 : Hid (Cells w 6 A0 s_0.length (Go.Proofs.YtgimcnpkngpmiaaGreatDoor.PPostmark.flat s_0))) (N0 : Hid (s_0.length ≤ 9223372036854775807)) (Q0 : Hid (Room A0 s_0.length c0))  {r : (List Go.Proofs.YtgimcnpkngpmiaaGreatDoor.PPostmark.Postmark)} (H : Hid (P s_0 = some r)) :
    Calls Tryz.prog 25 #[.slice A0 s_0.length c0] w (fun e w' => ∃ A_r c_r, e = .returned (.slice A_r r.length c_r) ∧ w'.ownsRow w.heap.size 34 6 (.slice A_r r.length c_r) r.length (Go.Proofs.YtgimcnpkngpmiaaGreatDoor.PPostmark.flat r) ∧ Below w.heap.size w w') := by
  have HB := Lib.hid (Below.refl w.heap.size w)
  unfold P at H
  have N0o := N0.out
  obtain ⟨i0_34, hi_34, hz0_34, hz1_34, hz2_34⟩ := Aid.info_parts (P := Tryz.prog) (T := 34) (z := .agg #[.int .i64 0, .string ByteArray.empty, .int .i64 0, .int .i64 0, .int .i64 0, .string ByteArray.empty]) (s := 6) (b := 64) (by kernel_rfl)
  go_enter Tryz.func25, Tryz.ntmps25
  have mt_2 := Go.Proofs.YtgimcnpkngpmiaaGreatDoor.GoK.nil_cells (l := s_0) (Cells.below M0.out HB.out) (fun h_ => by cases s_0 with | nil => rfl | cons y_ ys_ => simp [Go.Proofs.YtgimcnpkngpmiaaGreatDoor.PPostmark.flat, Go.Proofs.YtgimcnpkngpmiaaGreatDoor.PPostmark.Postmark.cells] at h_)
  obtain ⟨nt_2, ht_2⟩ : ∃ z_, (A0 : Option Addr).isNone = z_ := ⟨_, rfl⟩
  have rt_2 : ∀ W_, (binOp .eql 24 (.slice A0 s_0.length c0) (.slice none 0 0)).run Tryz.prog W_ = .ok (.bool nt_2) W_ := by intro W_; rw [← ht_2]; exact Lib.run_eql_slice_nil W_ _ _ _ _ _ _ _ Tryz.underlying24
  replace H := Go.Proofs.YtgimcnpkngpmiaaGreatDoor.GoK.nilK_hid H nt_2 (by rw [← ht_2]; exact mt_2) (by intro h_; subst h_; rfl)
  clear mt_2 ht_2
  cases nt_2 with
  | false =>
    replace H := ite_f H
    obtain ⟨w_t_4, hw_t_4⟩ : ∃ x, w.alloc (.cells #[] 34) = x := ⟨_, rfl⟩
    have bw_t_4 : Below w.heap.size w w_t_4 := by rw [← hw_t_4]; exact (Below.refl _ _).alloc (Nat.le_refl _) _
    have Ot_4 : Hid (w_t_4.ownsRow w.heap.size 34 6 (.slice (some ⟨w.heap.size, 0, none⟩) 0 0) 0 []) := Lib.hid (by rw [← hw_t_4]; exact own_empty HB.out.size)
    have HBw_t_4 := Lib.hid (Below.step HB.out bw_t_4)
    clear bw_t_4
    replace H := guard_hid H
    obtain ⟨hlt_6, H⟩ := H
    replace H := let_hid H
    obtain ⟨t_6, ht_6, H⟩ := H
    have hht_6 := Lib.hid ht_6
    clear ht_6
    have hst_6 := HBw_t_4.out.size
    have Ct_6 := Lib.hid ((Cells.below M0.out HBw_t_4.out))
    go_wp2_with (at_builtin; refine append_spread rfl _ _ 24 rfl w.heap.size 34 i0_34 (.agg #[.int .i64 0, .string ByteArray.empty, .int .i64 0, .int .i64 0, .int .i64 0, .string ByteArray.empty]) 6 64 Tryz.underlying24 hi_34 hz0_34 hz1_34 hz2_34 rfl (by decide) (some ⟨w.heap.size, 0, none⟩) 0 0 _ rfl Ot_4.out A0 s_0.length c0 (Go.Proofs.YtgimcnpkngpmiaaGreatDoor.PPostmark.flat s_0) rfl Q0.out Ct_6.out (fun u hu => by obtain ⟨y_, _, hy_⟩ := List.mem_flatMap.1 hu; simp only [Go.Proofs.YtgimcnpkngpmiaaGreatDoor.PPostmark.Postmark.cells, List.mem_cons, List.not_mem_nil, or_false] at hy_; rcases hy_ with rfl | rfl | rfl | rfl | rfl | rfl <;> rfl) (by unfold maxLen; simp only [List.length_nil] at hlt_6; omega) (by simp only [List.length_nil] at hlt_6; omega) hst_6 ?_; intro vt_6 wt_6 ot_6 gt_6 yt_6; obtain ⟨At_6, ct_6, rfl, pt_6⟩ := own_pushS (f := Go.Proofs.YtgimcnpkngpmiaaGreatDoor.PPostmark.flat) hht_6.out (by simp [Go.Proofs.YtgimcnpkngpmiaaGreatDoor.PPostmark.flat]) rfl ot_6; have Pt_6 := Lib.hid pt_6; have Yt_6 := Lib.hid yt_6; have Gt_6 := Lib.hid gt_6; clear ot_6 gt_6 pt_6 yt_6; refine stop_in ?_)
    refine stop_out ?_
    clear Ct_6
    have HBwt_6 := Lib.hid (HBw_t_4.out.grown Gt_6.out hst_6 (fun q hq => (Ot_4.out.lt q hq).1))
    clear hst_6
    clear Ot_4 Yt_6 Gt_6
    obtain rfl := ret_hid H
    go_wp2_with fail
    go_ret
    exact ⟨At_6, ct_6, rfl, Pt_6.out, HBwt_6.out⟩
  | true =>
    replace H := ite_t H
    obtain rfl := ret_hid H
    go_wp2_with fail
    go_ret
    exact ⟨none, 0, rfl, own_nil, HB.out⟩
end Go.Proofs.YtgimcnpkngpmiaaGreatDoor.GxSlicesCloneLoopExampleG01062ImplPostmarkLoopExampleG01062ImplPostmark

/- loop.example/g01062/impl.ExtendUse as a plain function, and the contract of the program's: where the plain one has an answer, the program has it. Conditions: slices read as lists. -/
namespace Go.Proofs.YtgimcnpkngpmiaaGreatDoor.GiExtendUse
set_option linter.unusedVariables false
set_option linter.unusedSimpArgs false
open Go.RowKit
open Go.Proofs.YtgimcnpkngpmiaaGreatDoor.Rowed Go.Proofs.YtgimcnpkngpmiaaGreatDoor.Turn Go.Proofs.YtgimcnpkngpmiaaGreatDoor.Aid Go.Proofs.YtgimcnpkngpmiaaGreatDoor.GoP Go.Proofs.YtgimcnpkngpmiaaGreatDoor.GoM

def P (list : (List Go.Proofs.YtgimcnpkngpmiaaGreatDoor.PPostmark.Postmark)) (id : Int) (day : Int) : Option ((List Go.Proofs.YtgimcnpkngpmiaaGreatDoor.PPostmark.Postmark) × Int × Bool) :=
  Option.bind (Go.Proofs.YtgimcnpkngpmiaaGreatDoor.GiIndexOfPostmark.P list id) fun (t_5 : Int) =>
  letK (decide (t_5 < 0)) fun (t_8 : Bool) =>
  joinK (fun (t_13 : Bool) =>
  iteK t_13
  (some (([] : List Go.Proofs.YtgimcnpkngpmiaaGreatDoor.PPostmark.Postmark), 0, false))
  (Option.bind (idx list t_5) fun (yt_20 : Go.Proofs.YtgimcnpkngpmiaaGreatDoor.PPostmark.Postmark) =>
  unPostmark yt_20 fun (t_20_id : Int) (t_20_town : ByteArray) (t_20_kind_ : Int) (t_20_first : Int) (t_20_last : Int) (t_20_lost : ByteArray) =>
  letK (min t_20_first day) fun (t_30 : Int) =>
  letK (max t_20_last day) fun (t_36 : Int) =>
  Option.bind (Go.Proofs.YtgimcnpkngpmiaaGreatDoor.GxSlicesCloneLoopExampleG01062ImplPostmarkLoopExampleG01062ImplPostmark.P list) fun (t_40 : (List Go.Proofs.YtgimcnpkngpmiaaGreatDoor.PPostmark.Postmark)) =>
  Option.bind (idx t_40 t_5) fun (yt_45 : Go.Proofs.YtgimcnpkngpmiaaGreatDoor.PPostmark.Postmark) =>
  unPostmark yt_45 fun (t_45_id : Int) (t_45_town : ByteArray) (t_45_kind_ : Int) (t_45_first : Int) (t_45_last : Int) (t_45_lost : ByteArray) =>
  letK (t_40.set (t_5).toNat (Go.Proofs.YtgimcnpkngpmiaaGreatDoor.PPostmark.Postmark.mk t_20_id t_20_town t_20_kind_ t_30 t_36 t_20_lost)) fun (l46_46 : (List Go.Proofs.YtgimcnpkngpmiaaGreatDoor.PPostmark.Postmark)) =>
  letK (IntKind.i64.wrap (t_36 - t_30)) fun (t_52 : Int) =>
  letK (IntKind.i64.wrap (t_20_last - t_20_first)) fun (t_57 : Int) =>
  letK (IntKind.i64.wrap (t_52 - t_57)) fun (t_58 : Int) =>
  some (l46_46, t_58, true))) fun jt_13 => iteK t_8 (appK jt_13 true) (Option.bind (Go.Proofs.YtgimcnpkngpmiaaGreatDoor.GiIsDay.P day) fun (t_11 : Bool) =>
  letK (!t_11) fun (t_12 : Bool) =>
  appK jt_13 t_12)

set_option maxRecDepth 100000 in
set_option maxHeartbeats 2000000 in
theorem C (list : (List Go.Proofs.YtgimcnpkngpmiaaGreatDoor.PPostmark.Postmark)) (id : Int) (day : Int) (A0 : Option Addr) (c0 : Nat)  (w : World) (M0 : Hid (Cells w 6 A0 list.length (Go.Proofs.YtgimcnpkngpmiaaGreatDoor.PPostmark.flat list))) (N0 : Hid (list.length ≤ 9223372036854775807)) (Q0 : Hid (Room A0 list.length c0))  {r0 : (List Go.Proofs.YtgimcnpkngpmiaaGreatDoor.PPostmark.Postmark)} {r1 : Int} {r2 : Bool} (H : Hid (P list id day = some (r0, r1, r2))) :
    Calls Tryz.prog 6 #[.slice A0 list.length c0, .int .i64 id, .int .i64 day] w (fun e w' => ∃ A_r0 c_r0, e = .returned (.tuple #[.slice A_r0 r0.length c_r0, .int .i64 r1, .bool r2]) ∧ w'.ownsRow w.heap.size 34 6 (.slice A_r0 r0.length c_r0) r0.length (Go.Proofs.YtgimcnpkngpmiaaGreatDoor.PPostmark.flat r0) ∧ Below w.heap.size w w') := by
  have HB := Lib.hid (Below.refl w.heap.size w)
  unfold P at H
  have N0o := N0.out
  go_enter Tryz.func6, Tryz.ntmps6
  replace H := bind_hid H
  obtain ⟨t_5, qt_5, H⟩ := H
  go_wp2_with fail
  go_at_call 23
  refine (Go.Proofs.YtgimcnpkngpmiaaGreatDoor.GiIndexOfPostmark.C (list) (id) A0 c0 _   (Lib.hid (Cells.below M0.out HB.out)) N0 qt_5).mono ?_
  rintro e_t_5 wt_5 ⟨rfl, bt_5⟩
  have HBwt_5 := Lib.hid (Below.step HB.out bt_5)
  clear bt_5
  replace H := let_hid H
  obtain ⟨t_8, ht_8, H⟩ := H
  replace H := join_hid H
  cases t_8 with
  | false =>
    replace H := ite_f H
    replace H := bind_hid H
    obtain ⟨t_11, qt_11, H⟩ := H
    go_wp2_with fail
    go_at_call 24
    refine (Go.Proofs.YtgimcnpkngpmiaaGreatDoor.GiIsDay.C (day)  _    qt_11).mono ?_
    rintro e_t_11 wt_11 ⟨rfl, bt_11⟩
    have HBwt_11 := Lib.hid (Below.step HBwt_5.out bt_11)
    clear bt_11
    cases t_11 with
    | false =>
      replace H := let_hid H
      obtain ⟨t_12, ht_12, H⟩ := H
      obtain rfl : t_12 = true := ht_12.symm
      replace H := app_hid H
      replace H := ite_t H
      obtain ⟨w_t_14, hw_t_14⟩ : ∃ x, wt_11.alloc (.cells #[] 34) = x := ⟨_, rfl⟩
      have bw_t_14 : Below wt_11.heap.size wt_11 w_t_14 := by rw [← hw_t_14]; exact (Below.refl _ _).alloc (Nat.le_refl _) _
      have Ot_14 : Hid (w_t_14.ownsRow w.heap.size 34 6 (.slice (some ⟨wt_11.heap.size, 0, none⟩) 0 0) 0 []) := Lib.hid (by rw [← hw_t_14]; exact own_empty HBwt_11.out.size)
      have HBw_t_14 := Lib.hid (Below.step HBwt_11.out bw_t_14)
      clear bw_t_14
      cases ret_hid H
      go_wp2_with fail
      go_ret3
      exact ⟨(some ⟨wt_11.heap.size, 0, none⟩), 0, rfl, Ot_14.out, HBw_t_14.out⟩
    | true =>
      replace H := let_hid H
      obtain ⟨t_12, ht_12, H⟩ := H
      obtain rfl : t_12 = false := ht_12.symm
      replace H := app_hid H
      replace H := ite_f H
      replace H := idx_hid H
      obtain ⟨nt_20, yt_20, et_20, lt_20, gt_20, H⟩ := H
      subst et_20
      have nc_326 : ¬ (nt_20 < 0) := by have := of_decide_eq_false ht_8; omega
      obtain ⟨t_20_id, t_20_town, t_20_kind_, t_20_first, t_20_last, t_20_lost⟩ := yt_20
      replace H := unPostmark_hid H
      obtain ⟨ab_t_20, ao_t_20, zt_20, At_20, z_t_20, ct_20_0, ct_20_1, ct_20_2, ct_20_3, ct_20_4, ct_20_5⟩ := Go.Proofs.YtgimcnpkngpmiaaGreatDoor.OPostmark.at_ M0.out lt_20
      obtain rfl := Option.some.inj (gt_20.out.symm.trans z_t_20)
      subst At_20
      have ltt_20 := cell_lt ct_20_0
      replace ct_20_0 := cell_below HBwt_11.out ct_20_0
      replace ct_20_1 := cell_below HBwt_11.out ct_20_1
      replace ct_20_2 := cell_below HBwt_11.out ct_20_2
      replace ct_20_3 := cell_below HBwt_11.out ct_20_3
      replace ct_20_4 := cell_below HBwt_11.out ct_20_4
      replace ct_20_5 := cell_below HBwt_11.out ct_20_5
      clear z_t_20
      have b0t_20 : (0 : Int) ≤ (nt_20 : Int) := by omega
      have b1t_20 : (nt_20 : Int) < ((list.length : Nat) : Int) := by omega
      have b2t_20 : ((nt_20 : Int)).toNat = nt_20 := by omega
      obtain ⟨w_before_22, hw_before_22⟩ : ∃ x, wt_11.alloc (.cells #[.int .i64 t_20_id, .string t_20_town, .int .i64 t_20_kind_, .int .i64 t_20_first, .int .i64 t_20_last, .string t_20_lost] 34) = x := ⟨_, rfl⟩
      have bw_before_22 : Below wt_11.heap.size wt_11 w_before_22 := by rw [← hw_before_22]; exact (Below.refl _ _).alloc (Nat.le_refl _) _
      have HBw_before_22 := Lib.hid (Below.step HBwt_11.out bw_before_22)
      have ct_20_0__327 := cell_below bw_before_22 ct_20_0
      have ct_20_1__328 := cell_below bw_before_22 ct_20_1
      have ct_20_2__329 := cell_below bw_before_22 ct_20_2
      have ct_20_3__330 := cell_below bw_before_22 ct_20_3
      have ct_20_4__331 := cell_below bw_before_22 ct_20_4
      have ct_20_5__332 := cell_below bw_before_22 ct_20_5
      clear bw_before_22
      have kbefore_22_0 : w_before_22.cell? ⟨wt_11.heap.size, 0, none⟩ = some (.int .i64 t_20_id) := by rw [← hw_before_22]; exact box_new _ _ _ 0 _ rfl
      have kbefore_22_1 : w_before_22.cell? ⟨wt_11.heap.size, 1, none⟩ = some (.string t_20_town) := by rw [← hw_before_22]; exact box_new _ _ _ 1 _ rfl
      have kbefore_22_2 : w_before_22.cell? ⟨wt_11.heap.size, 2, none⟩ = some (.int .i64 t_20_kind_) := by rw [← hw_before_22]; exact box_new _ _ _ 2 _ rfl
      have kbefore_22_3 : w_before_22.cell? ⟨wt_11.heap.size, 3, none⟩ = some (.int .i64 t_20_first) := by rw [← hw_before_22]; exact box_new _ _ _ 3 _ rfl
      have kbefore_22_4 : w_before_22.cell? ⟨wt_11.heap.size, 4, none⟩ = some (.int .i64 t_20_last) := by rw [← hw_before_22]; exact box_new _ _ _ 4 _ rfl
      have kbefore_22_5 : w_before_22.cell? ⟨wt_11.heap.size, 5, none⟩ = some (.string t_20_lost) := by rw [← hw_before_22]; exact box_new _ _ _ 5 _ rfl
      obtain ⟨w_after_25, hw_after_25⟩ : ∃ x, w_before_22.alloc (.cells #[.int .i64 t_20_id, .string t_20_town, .int .i64 t_20_kind_, .int .i64 t_20_first, .int .i64 t_20_last, .string t_20_lost] 34) = x := ⟨_, rfl⟩
      have bw_after_25 : Below w_before_22.heap.size w_before_22 w_after_25 := by rw [← hw_after_25]; exact (Below.refl _ _).alloc (Nat.le_refl _) _
      have Dafter_25_before_22 := Lib.hid (apart_box kbefore_22_0)
      have HBw_after_25 := Lib.hid (Below.step HBw_before_22.out bw_after_25)
      have ct_20_0__333 := cell_below bw_after_25 ct_20_0__327
      have ct_20_1__334 := cell_below bw_after_25 ct_20_1__328
      have ct_20_2__335 := cell_below bw_after_25 ct_20_2__329
      have ct_20_3__336 := cell_below bw_after_25 ct_20_3__330
      have ct_20_4__337 := cell_below bw_after_25 ct_20_4__331
      have ct_20_5__338 := cell_below bw_after_25 ct_20_5__332
      have kbefore_22_0__339 := cell_below bw_after_25 kbefore_22_0
      have kbefore_22_1__340 := cell_below bw_after_25 kbefore_22_1
      have kbefore_22_2__341 := cell_below bw_after_25 kbefore_22_2
      have kbefore_22_3__342 := cell_below bw_after_25 kbefore_22_3
      have kbefore_22_4__343 := cell_below bw_after_25 kbefore_22_4
      have kbefore_22_5__344 := cell_below bw_after_25 kbefore_22_5
      clear bw_after_25
      have kafter_25_0 : w_after_25.cell? ⟨w_before_22.heap.size, 0, none⟩ = some (.int .i64 t_20_id) := by rw [← hw_after_25]; exact box_new _ _ _ 0 _ rfl
      have kafter_25_1 : w_after_25.cell? ⟨w_before_22.heap.size, 1, none⟩ = some (.string t_20_town) := by rw [← hw_after_25]; exact box_new _ _ _ 1 _ rfl
      have kafter_25_2 : w_after_25.cell? ⟨w_before_22.heap.size, 2, none⟩ = some (.int .i64 t_20_kind_) := by rw [← hw_after_25]; exact box_new _ _ _ 2 _ rfl
      have kafter_25_3 : w_after_25.cell? ⟨w_before_22.heap.size, 3, none⟩ = some (.int .i64 t_20_first) := by rw [← hw_after_25]; exact box_new _ _ _ 3 _ rfl
      have kafter_25_4 : w_after_25.cell? ⟨w_before_22.heap.size, 4, none⟩ = some (.int .i64 t_20_last) := by rw [← hw_after_25]; exact box_new _ _ _ 4 _ rfl
      have kafter_25_5 : w_after_25.cell? ⟨w_before_22.heap.size, 5, none⟩ = some (.string t_20_lost) := by rw [← hw_after_25]; exact box_new _ _ _ 5 _ rfl
      have Oafter_25 : Hid (w_after_25.ownsRow w.heap.size 34 6 (.slice (some ⟨w_before_22.heap.size, 0, none⟩) 1 1) 1 [.int .i64 t_20_id, .string t_20_town, .int .i64 t_20_kind_, .int .i64 t_20_first, .int .i64 t_20_last, .string t_20_lost]) := Lib.hid (by rw [← hw_after_25]; exact own_laid (n := 1) HBw_before_22.out.size rfl rfl (by unfold maxLen; omega))
      replace H := let_hid H
      obtain ⟨t_30, ht_30, H⟩ := H
      obtain ⟨wb32_32, hwb32_32⟩ : ∃ x, (w_after_25).setCell ⟨w_before_22.heap.size, 3, none⟩ (.int .i64 t_30) = x := ⟨_, rfl⟩
      have z0b32_32 := Oafter_25.out.frozenAt 3
      have Sb32_32 := Lib.hid (own_stores [(3, .int .i64 t_30)] Oafter_25.out)
      have Pb32_32 : Hid (wb32_32.ownsRow w.heap.size 34 6 (.slice (some ⟨w_before_22.heap.size, 0, none⟩) 1 1) 1 [.int .i64 t_20_id, .string t_20_town, .int .i64 t_20_kind_, .int .i64 t_30, .int .i64 t_20_last, .string t_20_lost]) := Lib.hid (by rw [← hwb32_32]; exact Sb32_32.out.1)
      have Gb32_32 : Hid (w_after_25.grownBy wb32_32 (Value.slice (some ⟨w_before_22.heap.size, 0, none⟩) 1 1).ownBlock) := Lib.hid (by rw [← hwb32_32]; exact Sb32_32.out.2)
      have HBwb32_32 := Lib.hid (HBw_after_25.out.grown Gb32_32.out HBw_after_25.out.size (fun q hq => (Oafter_25.out.lt q hq).1))
      clear Sb32_32
      have ct_20_0__345 := cell_other ct_20_0__333 Gb32_32.out (apart_old Oafter_25.out ltt_20)
      have ct_20_1__346 := cell_other ct_20_1__334 Gb32_32.out (apart_old Oafter_25.out ltt_20)
      have ct_20_2__347 := cell_other ct_20_2__335 Gb32_32.out (apart_old Oafter_25.out ltt_20)
      have ct_20_3__348 := cell_other ct_20_3__336 Gb32_32.out (apart_old Oafter_25.out ltt_20)
      have ct_20_4__349 := cell_other ct_20_4__337 Gb32_32.out (apart_old Oafter_25.out ltt_20)
      have ct_20_5__350 := cell_other ct_20_5__338 Gb32_32.out (apart_old Oafter_25.out ltt_20)
      have kbefore_22_0__351 := cell_other kbefore_22_0__339 Gb32_32.out Dafter_25_before_22.out
      have kbefore_22_1__352 := cell_other kbefore_22_1__340 Gb32_32.out Dafter_25_before_22.out
      have kbefore_22_2__353 := cell_other kbefore_22_2__341 Gb32_32.out Dafter_25_before_22.out
      have kbefore_22_3__354 := cell_other kbefore_22_3__342 Gb32_32.out Dafter_25_before_22.out
      have kbefore_22_4__355 := cell_other kbefore_22_4__343 Gb32_32.out Dafter_25_before_22.out
      have kbefore_22_5__356 := cell_other kbefore_22_5__344 Gb32_32.out Dafter_25_before_22.out
      clear Oafter_25 Gb32_32
      have kafter_25_0__357 : wb32_32.cell? ⟨w_before_22.heap.size, 0, none⟩ = some (.int .i64 t_20_id) := Pb32_32.out.cells rfl 0 _ rfl
      have kafter_25_1__358 : wb32_32.cell? ⟨w_before_22.heap.size, 1, none⟩ = some (.string t_20_town) := Pb32_32.out.cells rfl 1 _ rfl
      have kafter_25_2__359 : wb32_32.cell? ⟨w_before_22.heap.size, 2, none⟩ = some (.int .i64 t_20_kind_) := Pb32_32.out.cells rfl 2 _ rfl
      have kafter_25_3__360 : wb32_32.cell? ⟨w_before_22.heap.size, 3, none⟩ = some (.int .i64 t_30) := Pb32_32.out.cells rfl 3 _ rfl
      have kafter_25_4__361 : wb32_32.cell? ⟨w_before_22.heap.size, 4, none⟩ = some (.int .i64 t_20_last) := Pb32_32.out.cells rfl 4 _ rfl
      have kafter_25_5__362 : wb32_32.cell? ⟨w_before_22.heap.size, 5, none⟩ = some (.string t_20_lost) := Pb32_32.out.cells rfl 5 _ rfl
      replace H := let_hid H
      obtain ⟨t_36, ht_36, H⟩ := H
      obtain ⟨wb38_38, hwb38_38⟩ : ∃ x, (wb32_32).setCell ⟨w_before_22.heap.size, 4, none⟩ (.int .i64 t_36) = x := ⟨_, rfl⟩
      have z0b38_38 := Pb32_32.out.frozenAt 4
      have Sb38_38 := Lib.hid (own_stores [(4, .int .i64 t_36)] Pb32_32.out)
      have Pb38_38 : Hid (wb38_38.ownsRow w.heap.size 34 6 (.slice (some ⟨w_before_22.heap.size, 0, none⟩) 1 1) 1 [.int .i64 t_20_id, .string t_20_town, .int .i64 t_20_kind_, .int .i64 t_30, .int .i64 t_36, .string t_20_lost]) := Lib.hid (by rw [← hwb38_38]; exact Sb38_38.out.1)
      have Gb38_38 : Hid (wb32_32.grownBy wb38_38 (Value.slice (some ⟨w_before_22.heap.size, 0, none⟩) 1 1).ownBlock) := Lib.hid (by rw [← hwb38_38]; exact Sb38_38.out.2)
      have HBwb38_38 := Lib.hid (HBwb32_32.out.grown Gb38_38.out HBwb32_32.out.size (fun q hq => (Pb32_32.out.lt q hq).1))
      clear Sb38_38
      have ct_20_0__363 := cell_other ct_20_0__345 Gb38_38.out (apart_old Pb32_32.out ltt_20)
      have ct_20_1__364 := cell_other ct_20_1__346 Gb38_38.out (apart_old Pb32_32.out ltt_20)
      have ct_20_2__365 := cell_other ct_20_2__347 Gb38_38.out (apart_old Pb32_32.out ltt_20)
      have ct_20_3__366 := cell_other ct_20_3__348 Gb38_38.out (apart_old Pb32_32.out ltt_20)
      have ct_20_4__367 := cell_other ct_20_4__349 Gb38_38.out (apart_old Pb32_32.out ltt_20)
      have ct_20_5__368 := cell_other ct_20_5__350 Gb38_38.out (apart_old Pb32_32.out ltt_20)
      have kbefore_22_0__369 := cell_other kbefore_22_0__351 Gb38_38.out Dafter_25_before_22.out
      have kbefore_22_1__370 := cell_other kbefore_22_1__352 Gb38_38.out Dafter_25_before_22.out
      have kbefore_22_2__371 := cell_other kbefore_22_2__353 Gb38_38.out Dafter_25_before_22.out
      have kbefore_22_3__372 := cell_other kbefore_22_3__354 Gb38_38.out Dafter_25_before_22.out
      have kbefore_22_4__373 := cell_other kbefore_22_4__355 Gb38_38.out Dafter_25_before_22.out
      have kbefore_22_5__374 := cell_other kbefore_22_5__356 Gb38_38.out Dafter_25_before_22.out
      clear Pb32_32 Gb38_38
      have kafter_25_0__375 : wb38_38.cell? ⟨w_before_22.heap.size, 0, none⟩ = some (.int .i64 t_20_id) := Pb38_38.out.cells rfl 0 _ rfl
      have kafter_25_1__376 : wb38_38.cell? ⟨w_before_22.heap.size, 1, none⟩ = some (.string t_20_town) := Pb38_38.out.cells rfl 1 _ rfl
      have kafter_25_2__377 : wb38_38.cell? ⟨w_before_22.heap.size, 2, none⟩ = some (.int .i64 t_20_kind_) := Pb38_38.out.cells rfl 2 _ rfl
      have kafter_25_3__378 : wb38_38.cell? ⟨w_before_22.heap.size, 3, none⟩ = some (.int .i64 t_30) := Pb38_38.out.cells rfl 3 _ rfl
      have kafter_25_4__379 : wb38_38.cell? ⟨w_before_22.heap.size, 4, none⟩ = some (.int .i64 t_36) := Pb38_38.out.cells rfl 4 _ rfl
      have kafter_25_5__380 : wb38_38.cell? ⟨w_before_22.heap.size, 5, none⟩ = some (.string t_20_lost) := Pb38_38.out.cells rfl 5 _ rfl
      replace H := bind_hid H
      obtain ⟨t_40, qt_40, H⟩ := H
      go_wp2_with fail
      clear ct_20_0 ct_20_1 ct_20_2 ct_20_3 ct_20_4 ct_20_5 ct_20_0__327 ct_20_1__328 ct_20_2__329 ct_20_3__330 ct_20_4__331 ct_20_5__332 kbefore_22_0 kbefore_22_1 kbefore_22_2 kbefore_22_3 kbefore_22_4 kbefore_22_5 z0b32_32 ct_20_0__333 ct_20_1__334 ct_20_2__335 ct_20_3__336 ct_20_4__337 ct_20_5__338 kbefore_22_0__339 kbefore_22_1__340 kbefore_22_2__341 kbefore_22_3__342 kbefore_22_4__343 kbefore_22_5__344 kafter_25_0 kafter_25_1 kafter_25_2 kafter_25_3 kafter_25_4 kafter_25_5 z0b38_38 ct_20_0__345 ct_20_1__346 ct_20_2__347 ct_20_3__348 ct_20_4__349 ct_20_5__350 kbefore_22_0__351 kbefore_22_1__352 kbefore_22_2__353 kbefore_22_3__354 kbefore_22_4__355 kbefore_22_5__356 kafter_25_0__357 kafter_25_1__358 kafter_25_2__359 kafter_25_3__360 kafter_25_4__361 kafter_25_5__362
      go_at_call 25
      refine (Go.Proofs.YtgimcnpkngpmiaaGreatDoor.GxSlicesCloneLoopExampleG01062ImplPostmarkLoopExampleG01062ImplPostmark.C (list) (some ⟨ab_t_20, ao_t_20, none⟩) c0 _   (Lib.hid (Cells.below M0.out HBwb38_38.out)) N0 Q0 qt_40).mono ?_
      rintro e_t_40 wt_40 ⟨At_40, ct_40, rfl, ot_40, bt_40⟩
      have Dt_40_before_22 := Lib.hid (apart_callbox ot_40 kbefore_22_0__369)
      have Dt_40_after_25 := Lib.hid (apart_callbox ot_40 kafter_25_0__375)
      have Ot_40 := Lib.hid (own_lower ot_40 HBwb38_38.out.size)
      clear ot_40
      have HBwt_40 := Lib.hid (Below.step HBwb38_38.out bt_40)
      replace ct_20_0__363 := cell_below bt_40 ct_20_0__363
      replace ct_20_1__364 := cell_below bt_40 ct_20_1__364
      replace ct_20_2__365 := cell_below bt_40 ct_20_2__365
      replace ct_20_3__366 := cell_below bt_40 ct_20_3__366
      replace ct_20_4__367 := cell_below bt_40 ct_20_4__367
      replace ct_20_5__368 := cell_below bt_40 ct_20_5__368
      replace kbefore_22_0__369 := cell_below bt_40 kbefore_22_0__369
      replace kbefore_22_1__370 := cell_below bt_40 kbefore_22_1__370
      replace kbefore_22_2__371 := cell_below bt_40 kbefore_22_2__371
      replace kbefore_22_3__372 := cell_below bt_40 kbefore_22_3__372
      replace kbefore_22_4__373 := cell_below bt_40 kbefore_22_4__373
      replace kbefore_22_5__374 := cell_below bt_40 kbefore_22_5__374
      replace kafter_25_0__375 := cell_below bt_40 kafter_25_0__375
      replace kafter_25_1__376 := cell_below bt_40 kafter_25_1__376
      replace kafter_25_2__377 := cell_below bt_40 kafter_25_2__377
      replace kafter_25_3__378 := cell_below bt_40 kafter_25_3__378
      replace kafter_25_4__379 := cell_below bt_40 kafter_25_4__379
      replace kafter_25_5__380 := cell_below bt_40 kafter_25_5__380
      replace Pb38_38 := Lib.hid (own_below Pb38_38.out bt_40)
      clear bt_40
      replace H := idx_hid H
      obtain ⟨nt_45, yt_45, et_45, lt_45, gt_45, H⟩ := H
      obtain rfl : nt_20 = nt_45 := by omega
      clear et_45
      obtain ⟨t_45_id, t_45_town, t_45_kind_, t_45_first, t_45_last, t_45_lost⟩ := yt_45
      replace H := unPostmark_hid H
      obtain ⟨qt_45, Qt_45⟩ := own_some Ot_40.out (by omega)
      subst Qt_45
      obtain ⟨ab_t_45, ao_t_45, zt_45, At_45, z_t_45, ct_45_0, ct_45_1, ct_45_2, ct_45_3, ct_45_4, ct_45_5⟩ := Go.Proofs.YtgimcnpkngpmiaaGreatDoor.OPostmark.at_ (own_cells Ot_40.out) (k := nt_20) (by omega)
      obtain rfl := Option.some.inj (gt_45.out.symm.trans z_t_45)
      simp only [Option.some.injEq, Addr.mk.injEq] at At_45
      obtain ⟨rfl, rfl, _⟩ := At_45
      clear z_t_45
      simp only [Nat.zero_add] at ct_45_0 ct_45_1 ct_45_2 ct_45_3 ct_45_4 ct_45_5
      have b0t_45 : (0 : Int) ≤ (nt_20 : Int) := by omega
      have b1t_45 : (nt_20 : Int) < ((t_40.length : Nat) : Int) := by omega
      have b2t_45 : ((nt_20 : Int)).toNat = nt_20 := by omega
      replace H := let_hid H
      obtain ⟨l46_46, hl46_46, H⟩ := H
      try simp only [Int.toNat_natCast] at hl46_46
      obtain ⟨wl46_46, hwl46_46⟩ : ∃ x, ((((((wt_40).setCell ⟨qt_45, nt_20 * 6, none⟩ (.int .i64 t_20_id)).setCell ⟨qt_45, nt_20 * 6 + 1, none⟩ (.string t_20_town)).setCell ⟨qt_45, nt_20 * 6 + 2, none⟩ (.int .i64 t_20_kind_)).setCell ⟨qt_45, nt_20 * 6 + 3, none⟩ (.int .i64 t_30)).setCell ⟨qt_45, nt_20 * 6 + 4, none⟩ (.int .i64 t_36)).setCell ⟨qt_45, nt_20 * 6 + 5, none⟩ (.string t_20_lost) = x := ⟨_, rfl⟩
      have z0l46_46 := Ot_40.out.frozenAt (nt_20 * 6)
      have z1l46_46 := Ot_40.out.frozenAt (nt_20 * 6 + 1)
      have z2l46_46 := Ot_40.out.frozenAt (nt_20 * 6 + 2)
      have z3l46_46 := Ot_40.out.frozenAt (nt_20 * 6 + 3)
      have z4l46_46 := Ot_40.out.frozenAt (nt_20 * 6 + 4)
      have z5l46_46 := Ot_40.out.frozenAt (nt_20 * 6 + 5)
      have Sl46_46 := Lib.hid (own_stores [(nt_20 * 6, .int .i64 t_20_id), (nt_20 * 6 + 1, .string t_20_town), (nt_20 * 6 + 2, .int .i64 t_20_kind_), (nt_20 * 6 + 3, .int .i64 t_30), (nt_20 * 6 + 4, .int .i64 t_36), (nt_20 * 6 + 5, .string t_20_lost)] Ot_40.out)
      have nl46_46 : Hid (l46_46.length = t_40.length) := Lib.hid (by rw [← hl46_46, List.length_set])
      have Pl46_46 : Hid (wl46_46.ownsRow w.heap.size 34 6 (.slice (some ⟨qt_45, 0, none⟩) t_40.length ct_40) t_40.length (Go.Proofs.YtgimcnpkngpmiaaGreatDoor.PPostmark.flat l46_46)) := Lib.hid (by have es_ := set_self gt_45.out; have e0_ := flat_set Go.Proofs.YtgimcnpkngpmiaaGreatDoor.PPostmark.Postmark.cells 6 (fun _ => rfl) t_40 (nt_20) 0 (Go.Proofs.YtgimcnpkngpmiaaGreatDoor.PPostmark.Postmark.mk t_45_id t_45_town t_45_kind_ t_45_first t_45_last t_45_lost) (Go.Proofs.YtgimcnpkngpmiaaGreatDoor.PPostmark.Postmark.mk t_20_id t_45_town t_45_kind_ t_45_first t_45_last t_45_lost) (.int .i64 t_20_id) lt_45 (by decide) rfl; have e1_ := flat_set Go.Proofs.YtgimcnpkngpmiaaGreatDoor.PPostmark.Postmark.cells 6 (fun _ => rfl) t_40 (nt_20) 1 (Go.Proofs.YtgimcnpkngpmiaaGreatDoor.PPostmark.Postmark.mk t_20_id t_45_town t_45_kind_ t_45_first t_45_last t_45_lost) (Go.Proofs.YtgimcnpkngpmiaaGreatDoor.PPostmark.Postmark.mk t_20_id t_20_town t_45_kind_ t_45_first t_45_last t_45_lost) (.string t_20_town) lt_45 (by decide) rfl; have e2_ := flat_set Go.Proofs.YtgimcnpkngpmiaaGreatDoor.PPostmark.Postmark.cells 6 (fun _ => rfl) t_40 (nt_20) 2 (Go.Proofs.YtgimcnpkngpmiaaGreatDoor.PPostmark.Postmark.mk t_20_id t_20_town t_45_kind_ t_45_first t_45_last t_45_lost) (Go.Proofs.YtgimcnpkngpmiaaGreatDoor.PPostmark.Postmark.mk t_20_id t_20_town t_20_kind_ t_45_first t_45_last t_45_lost) (.int .i64 t_20_kind_) lt_45 (by decide) rfl; have e3_ := flat_set Go.Proofs.YtgimcnpkngpmiaaGreatDoor.PPostmark.Postmark.cells 6 (fun _ => rfl) t_40 (nt_20) 3 (Go.Proofs.YtgimcnpkngpmiaaGreatDoor.PPostmark.Postmark.mk t_20_id t_20_town t_20_kind_ t_45_first t_45_last t_45_lost) (Go.Proofs.YtgimcnpkngpmiaaGreatDoor.PPostmark.Postmark.mk t_20_id t_20_town t_20_kind_ t_30 t_45_last t_45_lost) (.int .i64 t_30) lt_45 (by decide) rfl; have e4_ := flat_set Go.Proofs.YtgimcnpkngpmiaaGreatDoor.PPostmark.Postmark.cells 6 (fun _ => rfl) t_40 (nt_20) 4 (Go.Proofs.YtgimcnpkngpmiaaGreatDoor.PPostmark.Postmark.mk t_20_id t_20_town t_20_kind_ t_30 t_45_last t_45_lost) (Go.Proofs.YtgimcnpkngpmiaaGreatDoor.PPostmark.Postmark.mk t_20_id t_20_town t_20_kind_ t_30 t_36 t_45_lost) (.int .i64 t_36) lt_45 (by decide) rfl; have e5_ := flat_set Go.Proofs.YtgimcnpkngpmiaaGreatDoor.PPostmark.Postmark.cells 6 (fun _ => rfl) t_40 (nt_20) 5 (Go.Proofs.YtgimcnpkngpmiaaGreatDoor.PPostmark.Postmark.mk t_20_id t_20_town t_20_kind_ t_30 t_36 t_45_lost) (Go.Proofs.YtgimcnpkngpmiaaGreatDoor.PPostmark.Postmark.mk t_20_id t_20_town t_20_kind_ t_30 t_36 t_20_lost) (.string t_20_lost) lt_45 (by decide) rfl; rw [es_] at e0_; have e_ : ([(nt_20 * 6, .int .i64 t_20_id), (nt_20 * 6 + 1, .string t_20_town), (nt_20 * 6 + 2, .int .i64 t_20_kind_), (nt_20 * 6 + 3, .int .i64 t_30), (nt_20 * 6 + 4, .int .i64 t_36), (nt_20 * 6 + 5, .string t_20_lost)] : List (Nat × Value)).foldl (fun xs p => xs.set p.1 p.2) (Go.Proofs.YtgimcnpkngpmiaaGreatDoor.PPostmark.flat t_40) = (Go.Proofs.YtgimcnpkngpmiaaGreatDoor.PPostmark.flat l46_46) := (by rw [← hl46_46]; show _ = List.flatMap Go.Proofs.YtgimcnpkngpmiaaGreatDoor.PPostmark.Postmark.cells _; first | (rw [← e5_, ← e4_, ← e3_, ← e2_, ← e1_, ← e0_]; first | done | rfl) | (rw [← e5_, ← e4_, ← e3_, ← e2_, ← e1_, es_, ← e0_]; first | done | rfl)); rw [← hwl46_46, ← e_]; exact Sl46_46.out.1)
      have Gl46_46 : Hid (wt_40.grownBy wl46_46 (Value.slice (some ⟨qt_45, 0, none⟩) t_40.length ct_40).ownBlock) := Lib.hid (by rw [← hwl46_46]; exact Sl46_46.out.2)
      have HBwl46_46 := Lib.hid (HBwt_40.out.grown Gl46_46.out HBwt_40.out.size (fun q hq => (Ot_40.out.lt q hq).1))
      have hhl46_46 := Lib.hid hl46_46
      clear hl46_46 Sl46_46
      have ct_20_0__381 := cell_other ct_20_0__363 Gl46_46.out (apart_old Ot_40.out ltt_20)
      have ct_20_1__382 := cell_other ct_20_1__364 Gl46_46.out (apart_old Ot_40.out ltt_20)
      have ct_20_2__383 := cell_other ct_20_2__365 Gl46_46.out (apart_old Ot_40.out ltt_20)
      have ct_20_3__384 := cell_other ct_20_3__366 Gl46_46.out (apart_old Ot_40.out ltt_20)
      have ct_20_4__385 := cell_other ct_20_4__367 Gl46_46.out (apart_old Ot_40.out ltt_20)
      have ct_20_5__386 := cell_other ct_20_5__368 Gl46_46.out (apart_old Ot_40.out ltt_20)
      have kbefore_22_0__387 := cell_other kbefore_22_0__369 Gl46_46.out Dt_40_before_22.out
      have kbefore_22_1__388 := cell_other kbefore_22_1__370 Gl46_46.out Dt_40_before_22.out
      have kbefore_22_2__389 := cell_other kbefore_22_2__371 Gl46_46.out Dt_40_before_22.out
      have kbefore_22_3__390 := cell_other kbefore_22_3__372 Gl46_46.out Dt_40_before_22.out
      have kbefore_22_4__391 := cell_other kbefore_22_4__373 Gl46_46.out Dt_40_before_22.out
      have kbefore_22_5__392 := cell_other kbefore_22_5__374 Gl46_46.out Dt_40_before_22.out
      have kafter_25_0__393 := cell_other kafter_25_0__375 Gl46_46.out Dt_40_after_25.out
      have kafter_25_1__394 := cell_other kafter_25_1__376 Gl46_46.out Dt_40_after_25.out
      have kafter_25_2__395 := cell_other kafter_25_2__377 Gl46_46.out Dt_40_after_25.out
      have kafter_25_3__396 := cell_other kafter_25_3__378 Gl46_46.out Dt_40_after_25.out
      have kafter_25_4__397 := cell_other kafter_25_4__379 Gl46_46.out Dt_40_after_25.out
      have kafter_25_5__398 := cell_other kafter_25_5__380 Gl46_46.out Dt_40_after_25.out
      replace Pb38_38 := Lib.hid (own_other Pb38_38.out Gl46_46.out Dt_40_after_25.out)
      clear Ot_40 Gl46_46
      go_wp2_with fail
      clear z0l46_46 z1l46_46 z2l46_46 z3l46_46 z4l46_46 z5l46_46 ct_20_0__363 ct_20_1__364 ct_20_2__365 ct_20_3__366 ct_20_4__367 ct_20_5__368 kbefore_22_0__369 kbefore_22_1__370 kbefore_22_2__371 kbefore_22_3__372 kbefore_22_4__373 kbefore_22_5__374 kafter_25_0__375 kafter_25_1__376 kafter_25_2__377 kafter_25_3__378 kafter_25_4__379 kafter_25_5__380 ct_45_0 ct_45_1 ct_45_2 ct_45_3 ct_45_4 ct_45_5
      have Hct_20_0__381 := Lib.hid ct_20_0__381
      replace ct_20_0__381 := cell_regrown ct_20_0__381
      have Hct_20_1__382 := Lib.hid ct_20_1__382
      replace ct_20_1__382 := cell_regrown ct_20_1__382
      have Hct_20_2__383 := Lib.hid ct_20_2__383
      replace ct_20_2__383 := cell_regrown ct_20_2__383
      have Hct_20_3__384 := Lib.hid ct_20_3__384
      replace ct_20_3__384 := cell_regrown ct_20_3__384
      have Hct_20_4__385 := Lib.hid ct_20_4__385
      replace ct_20_4__385 := cell_regrown ct_20_4__385
      have Hct_20_5__386 := Lib.hid ct_20_5__386
      replace ct_20_5__386 := cell_regrown ct_20_5__386
      have Hkbefore_22_0__387 := Lib.hid kbefore_22_0__387
      replace kbefore_22_0__387 := cell_regrown kbefore_22_0__387
      have Hkbefore_22_1__388 := Lib.hid kbefore_22_1__388
      replace kbefore_22_1__388 := cell_regrown kbefore_22_1__388
      have Hkbefore_22_2__389 := Lib.hid kbefore_22_2__389
      replace kbefore_22_2__389 := cell_regrown kbefore_22_2__389
      have Hkbefore_22_3__390 := Lib.hid kbefore_22_3__390
      replace kbefore_22_3__390 := cell_regrown kbefore_22_3__390
      have Hkbefore_22_4__391 := Lib.hid kbefore_22_4__391
      replace kbefore_22_4__391 := cell_regrown kbefore_22_4__391
      have Hkbefore_22_5__392 := Lib.hid kbefore_22_5__392
      replace kbefore_22_5__392 := cell_regrown kbefore_22_5__392
      have Hkafter_25_0__393 := Lib.hid kafter_25_0__393
      replace kafter_25_0__393 := cell_regrown kafter_25_0__393
      have Hkafter_25_1__394 := Lib.hid kafter_25_1__394
      replace kafter_25_1__394 := cell_regrown kafter_25_1__394
      have Hkafter_25_2__395 := Lib.hid kafter_25_2__395
      replace kafter_25_2__395 := cell_regrown kafter_25_2__395
      have Hkafter_25_3__396 := Lib.hid kafter_25_3__396
      replace kafter_25_3__396 := cell_regrown kafter_25_3__396
      have Hkafter_25_4__397 := Lib.hid kafter_25_4__397
      replace kafter_25_4__397 := cell_regrown kafter_25_4__397
      have Hkafter_25_5__398 := Lib.hid kafter_25_5__398
      replace kafter_25_5__398 := cell_regrown kafter_25_5__398
      replace H := let_hid H
      obtain ⟨t_52, ht_52, H⟩ := H
      replace H := let_hid H
      obtain ⟨t_57, ht_57, H⟩ := H
      replace H := let_hid H
      obtain ⟨t_58, ht_58, H⟩ := H
      refine wp_region_quiet_below (by kernel_rfl) (by kernel_rfl) ?_
      repeat (go_big_quiet_step (fail))
      refine wpQuiet_nil ?_
      intro Y10 hY10
      replace hY10 := below_class hY10
      replace ct_20_0__381 := Hct_20_0__381.out
      clear Hct_20_0__381
      replace ct_20_1__382 := Hct_20_1__382.out
      clear Hct_20_1__382
      replace ct_20_2__383 := Hct_20_2__383.out
      clear Hct_20_2__383
      replace ct_20_3__384 := Hct_20_3__384.out
      clear Hct_20_3__384
      replace ct_20_4__385 := Hct_20_4__385.out
      clear Hct_20_4__385
      replace ct_20_5__386 := Hct_20_5__386.out
      clear Hct_20_5__386
      replace kbefore_22_0__387 := Hkbefore_22_0__387.out
      clear Hkbefore_22_0__387
      replace kbefore_22_1__388 := Hkbefore_22_1__388.out
      clear Hkbefore_22_1__388
      replace kbefore_22_2__389 := Hkbefore_22_2__389.out
      clear Hkbefore_22_2__389
      replace kbefore_22_3__390 := Hkbefore_22_3__390.out
      clear Hkbefore_22_3__390
      replace kbefore_22_4__391 := Hkbefore_22_4__391.out
      clear Hkbefore_22_4__391
      replace kbefore_22_5__392 := Hkbefore_22_5__392.out
      clear Hkbefore_22_5__392
      replace kafter_25_0__393 := Hkafter_25_0__393.out
      clear Hkafter_25_0__393
      replace kafter_25_1__394 := Hkafter_25_1__394.out
      clear Hkafter_25_1__394
      replace kafter_25_2__395 := Hkafter_25_2__395.out
      clear Hkafter_25_2__395
      replace kafter_25_3__396 := Hkafter_25_3__396.out
      clear Hkafter_25_3__396
      replace kafter_25_4__397 := Hkafter_25_4__397.out
      clear Hkafter_25_4__397
      replace kafter_25_5__398 := Hkafter_25_5__398.out
      clear Hkafter_25_5__398
      have HBY10 := Lib.hid (Below.step HBwl46_46.out hY10)
      replace ct_20_0__381 := cell_below hY10 ct_20_0__381
      replace ct_20_1__382 := cell_below hY10 ct_20_1__382
      replace ct_20_2__383 := cell_below hY10 ct_20_2__383
      replace ct_20_3__384 := cell_below hY10 ct_20_3__384
      replace ct_20_4__385 := cell_below hY10 ct_20_4__385
      replace ct_20_5__386 := cell_below hY10 ct_20_5__386
      replace kbefore_22_0__387 := cell_below hY10 kbefore_22_0__387
      replace kbefore_22_1__388 := cell_below hY10 kbefore_22_1__388
      replace kbefore_22_2__389 := cell_below hY10 kbefore_22_2__389
      replace kbefore_22_3__390 := cell_below hY10 kbefore_22_3__390
      replace kbefore_22_4__391 := cell_below hY10 kbefore_22_4__391
      replace kbefore_22_5__392 := cell_below hY10 kbefore_22_5__392
      replace kafter_25_0__393 := cell_below hY10 kafter_25_0__393
      replace kafter_25_1__394 := cell_below hY10 kafter_25_1__394
      replace kafter_25_2__395 := cell_below hY10 kafter_25_2__395
      replace kafter_25_3__396 := cell_below hY10 kafter_25_3__396
      replace kafter_25_4__397 := cell_below hY10 kafter_25_4__397
      replace kafter_25_5__398 := cell_below hY10 kafter_25_5__398
      replace Pl46_46 := Lib.hid (own_below Pl46_46.out hY10)
      replace Pb38_38 := Lib.hid (own_below Pb38_38.out hY10)
      clear hY10
      cases ret_hid H
      go_wp2_with fail
      go_ret3
      have hr_0 := nl46_46.out
      replace Pl46_46 := Lib.hid (own_len hr_0 Pl46_46.out)
      exact ⟨(some ⟨qt_45, 0, none⟩), ct_40, (by first | (rw [hr_0]; done) | (rw [hr_0]; rfl)), Pl46_46.out, HBY10.out⟩
  | true =>
    replace H := ite_t H
    replace H := app_hid H
    replace H := ite_t H
    obtain ⟨w_t_14, hw_t_14⟩ : ∃ x, wt_5.alloc (.cells #[] 34) = x := ⟨_, rfl⟩
    have bw_t_14 : Below wt_5.heap.size wt_5 w_t_14 := by rw [← hw_t_14]; exact (Below.refl _ _).alloc (Nat.le_refl _) _
    have Ot_14 : Hid (w_t_14.ownsRow w.heap.size 34 6 (.slice (some ⟨wt_5.heap.size, 0, none⟩) 0 0) 0 []) := Lib.hid (by rw [← hw_t_14]; exact own_empty HBwt_5.out.size)
    have HBw_t_14 := Lib.hid (Below.step HBwt_5.out bw_t_14)
    clear bw_t_14
    cases ret_hid H
    go_wp2_with fail
    go_ret3
    exact ⟨(some ⟨wt_5.heap.size, 0, none⟩), 0, rfl, Ot_14.out, HBw_t_14.out⟩
end Go.Proofs.YtgimcnpkngpmiaaGreatDoor.GiExtendUse

/- loop.example/g01062/spec.l11Find as a plain function, and the contract of the program's: where the plain one has an answer, the program has it. Conditions: slices read as lists. -/
namespace Go.Proofs.YtgimcnpkngpmiaaGreatDoor.GsL11Find
set_option linter.unusedVariables false
set_option linter.unusedSimpArgs false
open Go.RowKit
open Go.Proofs.YtgimcnpkngpmiaaGreatDoor.Rowed Go.Proofs.YtgimcnpkngpmiaaGreatDoor.Turn Go.Proofs.YtgimcnpkngpmiaaGreatDoor.Aid Go.Proofs.YtgimcnpkngpmiaaGreatDoor.GoP Go.Proofs.YtgimcnpkngpmiaaGreatDoor.GoM

def l0 (list : (List Go.Proofs.YtgimcnpkngpmiaaGreatDoor.PPostmark.Postmark)) (id : Int) (k0 : Nat) (s : Unit) (nx0 bk0 : Unit → Option (Int)) : Option (Int) :=
  
  Option.bind (idx list (k0 : Int)) fun (yt_8 : Go.Proofs.YtgimcnpkngpmiaaGreatDoor.PPostmark.Postmark) =>
  unPostmark yt_8 fun (t_8_id : Int) (t_8_town : ByteArray) (t_8_kind_ : Int) (t_8_first : Int) (t_8_last : Int) (t_8_lost : ByteArray) =>
  letK (t_8_id == id) fun (t_12 : Bool) =>
  iteK t_12
  (some (k0 : Int))
  (appK nx0 ())

def e0  (s : Unit) : Option (Int) :=
  
  some (-1)

def P (list : (List Go.Proofs.YtgimcnpkngpmiaaGreatDoor.PPostmark.Postmark)) (id : Int) : Option (Int) :=
  cntK (l0 list id) (list.length) 0 () (e0 )

set_option maxRecDepth 100000 in
set_option maxHeartbeats 2000000 in
theorem C (list : (List Go.Proofs.YtgimcnpkngpmiaaGreatDoor.PPostmark.Postmark)) (id : Int) (A0 : Option Addr) (c0 : Nat)  (w : World) (M0 : Hid (Cells w 6 A0 list.length (Go.Proofs.YtgimcnpkngpmiaaGreatDoor.PPostmark.flat list))) (N0 : Hid (list.length ≤ 9223372036854775807))  {r : Int} (H : Hid (P list id = some r)) :
    Calls Tryz.prog 26 #[.slice A0 list.length c0, .int .i64 id] w (Gives (.int .i64 r) w) := by
  have HB := Lib.hid (Below.refl w.heap.size w)
  unfold P at H
  have N0o := N0.out
  go_enter Tryz.func26, Tryz.ntmps26
  go_wp2_with fail
  go_loopg [5] (list.length) (fun m_ v5_ wr => ∃ (k0 : Nat) , k0 + m_ = list.length ∧ v5_ = .int .i64 (k0 : Int) ∧ Hid (cntK (l0 list id) m_ k0 () (e0 ) = some r) ∧ Hid (Below w.heap.size w wr))
  case atStart => exact ⟨0, by omega, rfl, H, HB⟩
  case round =>
    obtain ⟨k0, hkm0, rfl, H, HBwr0⟩ := hrel
    rename World => wr0
    cases gk with
    | zero =>
      obtain rfl : k0 = list.length := by omega
      have hc0 : decide (((list.length : Nat) : Int) < ((list.length : Nat) : Int)) = false := by simp
      replace H := cnt_zero H
      unfold e0 at H
      obtain rfl := ret_hid H
      go_wp2_with fail
      go_ret
      exact ⟨rfl, HBwr0.out⟩
    | succ m0 =>
      have hlt0 : k0 < list.length := by omega
      have hc0 : decide ((k0 : Int) < ((list.length : Nat) : Int)) = true := by simp; omega
      replace H := cnt_succ H
      unfold l0 at H
      replace H := idx_hid H
      obtain ⟨nt_8, yt_8, et_8, lt_8, gt_8, H⟩ := H
      obtain rfl : k0 = nt_8 := by omega
      clear et_8
      obtain ⟨t_8_id, t_8_town, t_8_kind_, t_8_first, t_8_last, t_8_lost⟩ := yt_8
      replace H := unPostmark_hid H
      obtain ⟨ab_t_8, ao_t_8, zt_8, At_8, z_t_8, ct_8_0, ct_8_1, ct_8_2, ct_8_3, ct_8_4, ct_8_5⟩ := Go.Proofs.YtgimcnpkngpmiaaGreatDoor.OPostmark.at_ M0.out lt_8
      obtain rfl := Option.some.inj (gt_8.out.symm.trans z_t_8)
      subst At_8
      have ltt_8 := cell_lt ct_8_0
      replace ct_8_0 := cell_below HBwr0.out ct_8_0
      replace ct_8_1 := cell_below HBwr0.out ct_8_1
      replace ct_8_2 := cell_below HBwr0.out ct_8_2
      replace ct_8_3 := cell_below HBwr0.out ct_8_3
      replace ct_8_4 := cell_below HBwr0.out ct_8_4
      replace ct_8_5 := cell_below HBwr0.out ct_8_5
      clear z_t_8
      have b0t_8 : (0 : Int) ≤ (k0 : Int) := by omega
      have b1t_8 : (k0 : Int) < ((list.length : Nat) : Int) := by omega
      have b2t_8 : ((k0 : Int)).toNat = k0 := by omega
      replace H := let_hid H
      obtain ⟨t_12, ht_12, H⟩ := H
      cases t_12 with
      | false =>
        replace H := ite_f H
        replace H := app_hid H
        go_wp2_with fail
        go_roundg m0
        case measure => omega
        case rel => exact ⟨k0 + 1, by omega, by go_num, H, HBwr0⟩
      | true =>
        replace H := ite_t H
        obtain rfl := ret_hid H
        go_wp2_with fail
        go_ret
        exact ⟨rfl, HBwr0.out⟩
end Go.Proofs.YtgimcnpkngpmiaaGreatDoor.GsL11Find

/- loop.example/g01062/spec.l1In as a plain function, and the contract of the program's: where the plain one has an answer, the program has it. Conditions: slices read as lists. -/
namespace Go.Proofs.YtgimcnpkngpmiaaGreatDoor.GsL1In
set_option linter.unusedVariables false
set_option linter.unusedSimpArgs false
open Go.RowKit
open Go.Proofs.YtgimcnpkngpmiaaGreatDoor.Rowed Go.Proofs.YtgimcnpkngpmiaaGreatDoor.Turn Go.Proofs.YtgimcnpkngpmiaaGreatDoor.Aid Go.Proofs.YtgimcnpkngpmiaaGreatDoor.GoP Go.Proofs.YtgimcnpkngpmiaaGreatDoor.GoM

def P (x : Int) (a : Int) (b : Int) : Option (Bool) :=
  letK (decide (a ≤ x)) fun (t_3 : Bool) =>
  joinK (fun (t_8 : Bool) =>
  some t_8) fun jt_8 => iteK t_3 (letK (decide (x ≤ b)) fun (t_7 : Bool) =>
  appK jt_8 t_7) (appK jt_8 false)

set_option maxRecDepth 100000 in
set_option maxHeartbeats 2000000 in
theorem C (x : Int) (a : Int) (b : Int)   (w : World)   {r : Bool} (H : Hid (P x a b = some r)) :
    Calls Tryz.prog 59 #[.int .i64 x, .int .i64 a, .int .i64 b] w (Gives (.bool r) w) := by
  have HB := Lib.hid (Below.refl w.heap.size w)
  unfold P at H
  go_enter Tryz.func59, Tryz.ntmps59
  replace H := let_hid H
  obtain ⟨t_3, ht_3, H⟩ := H
  replace H := join_hid H
  cases t_3 with
  | false =>
    replace H := ite_f H
    replace H := app_hid H
    obtain rfl := ret_hid H
    go_wp2_with fail
    go_ret
    exact ⟨rfl, HB.out⟩
  | true =>
    replace H := ite_t H
    replace H := let_hid H
    obtain ⟨t_7, ht_7, H⟩ := H
    replace H := app_hid H
    obtain rfl := ret_hid H
    go_wp2_with fail
    go_ret
    exact ⟨rfl, HB.out⟩

set_option maxRecDepth 100000 in
set_option maxHeartbeats 2000000 in
theorem C0 (x : Int) (a : Int) (b : Int)   (w : World)   {r : Bool} (H : Hid (P x a b = some r)) :
    Calls Tryz.prog 59 #[.int .i64 x, .int .i64 a, .int .i64 b] w (fun e w'' => e = .returned (.bool r) ∧ w'' = w) := by
  have HB := Lib.hid (Below.refl w.heap.size w)
  unfold P at H
  go_enter Tryz.func59, Tryz.ntmps59
  replace H := let_hid H
  obtain ⟨t_3, ht_3, H⟩ := H
  replace H := join_hid H
  cases t_3 with
  | false =>
    replace H := ite_f H
    replace H := app_hid H
    obtain rfl := ret_hid H
    go_wp2_with fail
    go_ret
    exact ⟨rfl, rfl⟩
  | true =>
    replace H := ite_t H
    replace H := let_hid H
    obtain ⟨t_7, ht_7, H⟩ := H
    replace H := app_hid H
    obtain rfl := ret_hid H
    go_wp2_with fail
    go_ret
    exact ⟨rfl, rfl⟩
end Go.Proofs.YtgimcnpkngpmiaaGreatDoor.GsL1In

/- loop.example/g01062/spec.l2Word as a plain function, and the contract of the program's: where the plain one has an answer, the program has it. Conditions: slices read as lists. -/
namespace Go.Proofs.YtgimcnpkngpmiaaGreatDoor.GsL2Word
set_option linter.unusedVariables false
set_option linter.unusedSimpArgs false
open Go.RowKit
open Go.Proofs.YtgimcnpkngpmiaaGreatDoor.Rowed Go.Proofs.YtgimcnpkngpmiaaGreatDoor.Turn Go.Proofs.YtgimcnpkngpmiaaGreatDoor.Aid Go.Proofs.YtgimcnpkngpmiaaGreatDoor.GoP Go.Proofs.YtgimcnpkngpmiaaGreatDoor.GoM

def l0 (s_0 : ByteArray) (k0 : Nat) (s : Unit) (nx0 bk0 : Unit → Option (Bool)) : Option (Bool) :=
  
  Option.bind (idx s_0.toList (k0 : Int)) fun (yt_8 : UInt8) =>
  letK ((yt_8.toNat : Int)) fun (t_8 : Int) =>
  letK (decide (t_8 < 97)) fun (t_9 : Bool) =>
  joinK (fun (t_15 : Bool) =>
  iteK t_15
  (some false)
  (appK nx0 ())) fun jt_15 => iteK t_9 (appK jt_15 true) (Option.bind (idx s_0.toList (k0 : Int)) fun (yt_13 : UInt8) =>
  letK ((yt_13.toNat : Int)) fun (t_13 : Int) =>
  letK (decide (122 < t_13)) fun (t_14 : Bool) =>
  appK jt_15 t_14)

def e0 (s_0 : ByteArray) (s : Unit) : Option (Bool) :=
  
  Option.bind (Go.Proofs.YtgimcnpkngpmiaaGreatDoor.GsL1In.P (s_0.size : Int) 1 10) fun (t_22 : Bool) =>
  some t_22

def P (s_0 : ByteArray) : Option (Bool) :=
  guardK (s_0.size ≤ 9223372036854775807) <|
  cntK (l0 s_0) (s_0.size) 0 () (e0 s_0)

set_option maxRecDepth 100000 in
set_option maxHeartbeats 2000000 in
theorem C (s_0 : ByteArray)   (w : World)   {r : Bool} (H : Hid (P s_0 = some r)) :
    Calls Tryz.prog 43 #[.string s_0] w (Gives (.bool r) w) := by
  have HB := Lib.hid (Below.refl w.heap.size w)
  unfold P at H
  go_enter Tryz.func43, Tryz.ntmps43
  replace H := guard_hid H
  obtain ⟨hg0, H⟩ := H
  go_wp2_with fail
  go_loopg [3] (s_0.size) (fun m_ v3_ wr => ∃ (k0 : Nat) , k0 + m_ = s_0.size ∧ v3_ = .int .i64 (k0 : Int) ∧ Hid (cntK (l0 s_0) m_ k0 () (e0 s_0) = some r) ∧ Hid (Below w.heap.size w wr))
  case atStart => exact ⟨0, by omega, rfl, H, HB⟩
  case round =>
    obtain ⟨k0, hkm0, rfl, H, HBwr0⟩ := hrel
    rename World => wr0
    cases gk with
    | zero =>
      obtain rfl : k0 = s_0.size := by omega
      have hc0 : decide (((s_0.size : Nat) : Int) < ((s_0.size : Nat) : Int)) = false := by simp
      replace H := cnt_zero H
      unfold e0 at H
      replace H := bind_hid H
      obtain ⟨t_22, qt_22, H⟩ := H
      go_wp2_with fail
      go_at_call 59
      refine (Go.Proofs.YtgimcnpkngpmiaaGreatDoor.GsL1In.C ((s_0.size : Int)) (1) (10)  _    qt_22).mono ?_
      rintro e_t_22 wt_22 ⟨rfl, bt_22⟩
      have HBwt_22 := Lib.hid (Below.step HBwr0.out bt_22)
      clear bt_22
      obtain rfl := ret_hid H
      go_wp2_with fail
      go_ret
      exact ⟨rfl, HBwt_22.out⟩
    | succ m0 =>
      have hlt0 : k0 < s_0.size := by omega
      have hc0 : decide ((k0 : Int) < ((s_0.size : Nat) : Int)) = true := by simp; omega
      replace H := cnt_succ H
      unfold l0 at H
      replace H := idx_hid H
      obtain ⟨nt_8, yt_8, et_8, lt_8, gt_8, H⟩ := H
      obtain rfl : k0 = nt_8 := by omega
      clear et_8
      have rt_8 := byte_rule lt_8 gt_8.out
      have b0t_8 : (0 : Int) ≤ (k0 : Int) := by omega
      have b1t_8 : (k0 : Int) < (s_0.size : Int) := by have := size_list s_0; omega
      have b2t_8 : ((k0 : Int)).toNat = k0 := by omega
      have b3t_8 : k0 < s_0.size := by have := size_list s_0; omega
      replace H := let_hid H
      obtain ⟨t_8, ht_8, H⟩ := H
      replace H := let_hid H
      obtain ⟨t_9, ht_9, H⟩ := H
      replace H := join_hid H
      cases t_9 with
      | false =>
        replace H := ite_f H
        replace H := idx_hid H
        obtain ⟨nt_13, yt_13, et_13, lt_13, gt_13, H⟩ := H
        obtain rfl : k0 = nt_13 := by omega
        clear et_13
        obtain rfl := Option.some.inj (gt_8.out.symm.trans gt_13.out)
        clear gt_13 lt_13
        replace H := let_hid H
        obtain ⟨t_13, ht_13, H⟩ := H
        obtain rfl := ht_8.symm.trans ht_13
        replace H := let_hid H
        obtain ⟨t_14, ht_14, H⟩ := H
        replace H := app_hid H
        cases t_14 with
        | false =>
          replace H := ite_f H
          replace H := app_hid H
          go_wp2_with fail
          go_roundg m0
          case measure => omega
          case rel => exact ⟨k0 + 1, by omega, by go_num, H, HBwr0⟩
        | true =>
          replace H := ite_t H
          obtain rfl := ret_hid H
          go_wp2_with fail
          go_ret
          exact ⟨rfl, HBwr0.out⟩
      | true =>
        replace H := ite_t H
        replace H := app_hid H
        replace H := ite_t H
        obtain rfl := ret_hid H
        go_wp2_with fail
        go_ret
        exact ⟨rfl, HBwr0.out⟩
end Go.Proofs.YtgimcnpkngpmiaaGreatDoor.GsL2Word

/- loop.example/g01062/spec.l2Day as a plain function, and the contract of the program's: where the plain one has an answer, the program has it. Conditions: slices read as lists. -/
namespace Go.Proofs.YtgimcnpkngpmiaaGreatDoor.GsL2Day
set_option linter.unusedVariables false
set_option linter.unusedSimpArgs false
open Go.RowKit
open Go.Proofs.YtgimcnpkngpmiaaGreatDoor.Rowed Go.Proofs.YtgimcnpkngpmiaaGreatDoor.Turn Go.Proofs.YtgimcnpkngpmiaaGreatDoor.Aid Go.Proofs.YtgimcnpkngpmiaaGreatDoor.GoP Go.Proofs.YtgimcnpkngpmiaaGreatDoor.GoM

def P (d_0 : Int) : Option (Bool) :=
  Option.bind (Go.Proofs.YtgimcnpkngpmiaaGreatDoor.GsL1In.P d_0 0 4000) fun (t_2 : Bool) =>
  some t_2

set_option maxRecDepth 100000 in
set_option maxHeartbeats 2000000 in
theorem C (d_0 : Int)   (w : World)   {r : Bool} (H : Hid (P d_0 = some r)) :
    Calls Tryz.prog 28 #[.int .i64 d_0] w (Gives (.bool r) w) := by
  have HB := Lib.hid (Below.refl w.heap.size w)
  unfold P at H
  go_enter Tryz.func28, Tryz.ntmps28
  replace H := bind_hid H
  obtain ⟨t_2, qt_2, H⟩ := H
  go_wp2_with fail
  go_at_call 59
  refine (Go.Proofs.YtgimcnpkngpmiaaGreatDoor.GsL1In.C (d_0) (0) (4000)  _    qt_2).mono ?_
  rintro e_t_2 wt_2 ⟨rfl, bt_2⟩
  have HBwt_2 := Lib.hid (Below.step HB.out bt_2)
  clear bt_2
  obtain rfl := ret_hid H
  go_wp2_with fail
  go_ret
  exact ⟨rfl, HBwt_2.out⟩
end Go.Proofs.YtgimcnpkngpmiaaGreatDoor.GsL2Day

