/- Texts on which the proofs of several laws stand, one behind the other (6 of 14). No condition of their own. -/
import Derived.Test.YtgimcnpkngpmiaaDoorChecked
import Derived.Test.YtgimcnpkngpmiaaDoorX12P1
import Derived.Test.YtgimcnpkngpmiaaDoorX12P2
import Derived.Test.YtgimcnpkngpmiaaDoorX12P3
import Derived.Test.YtgimcnpkngpmiaaDoorX12P5
import Derived.WalkKit
import Derived.WalkSpells
import Derived.WalkLawsBesides
import Derived.BigQuiet
import Derived.OwnWalk
import Derived.Deep.LoopGhost
import Derived.Deep.QuietTactic
import Derived.IntWalk
import Derived.Lib.QuietBelow
import Derived.Lib.SliceRun
/- loop.example/g01062/impl.areByKey[loop.example/g01062/impl.Postmark,int] as a plain function, and the contract of the program's: where the plain one has an answer, the program has it. Conditions: slices read as lists. -/
namespace Go.Proofs.YtgimcnpkngpmiaaDoor.GiAreByKeyPostmarkIntiIsPostmarkiIdOfPostmark
set_option linter.unusedVariables false
set_option linter.unusedSimpArgs false
open Go.RowKit
open Go.Proofs.YtgimcnpkngpmiaaDoor.Rowed Go.Proofs.YtgimcnpkngpmiaaDoor.Turn Go.Proofs.YtgimcnpkngpmiaaDoor.Aid Go.Proofs.YtgimcnpkngpmiaaDoor.GoP Go.Proofs.YtgimcnpkngpmiaaDoor.GoM

def l0 (list : (List Go.Proofs.YtgimcnpkngpmiaaDoor.PPostmark.Postmark)) (k0 : Nat) (s : Unit) (nx0 bk0 : Unit → Option (Bool)) : Option (Bool) :=
  
  Option.bind (idx list (k0 : Int)) fun (yt_11 : Go.Proofs.YtgimcnpkngpmiaaDoor.PPostmark.Postmark) =>
  unPostmark yt_11 fun (t_11_id : Int) (t_11_town : ByteArray) (t_11_kind_ : Int) (t_11_first : Int) (t_11_last : Int) (t_11_lost : ByteArray) =>
  Option.bind (Go.Proofs.YtgimcnpkngpmiaaDoor.GiIsPostmark.P (Go.Proofs.YtgimcnpkngpmiaaDoor.PPostmark.Postmark.mk t_11_id t_11_town t_11_kind_ t_11_first t_11_last t_11_lost)) fun (t_18 : Bool) =>
  letK (!t_18) fun (t_19 : Bool) =>
  joinK (fun (t_36 : Bool) =>
  iteK t_36
  (some false)
  (appK nx0 ())) fun jt_36 => iteK t_19 (appK jt_36 true) (letK (decide (0 < (k0 : Int))) fun (t_22 : Bool) =>
  joinK (fun (t_35 : Bool) =>
  appK jt_36 t_35) fun jt_35 => iteK t_22 (Option.bind (Go.Proofs.YtgimcnpkngpmiaaDoor.GiIdOfPostmark.P (Go.Proofs.YtgimcnpkngpmiaaDoor.PPostmark.Postmark.mk t_11_id t_11_town t_11_kind_ t_11_first t_11_last t_11_lost)) fun (t_26 : Int) =>
  letK (IntKind.i64.wrap ((k0 : Int) - 1)) fun (t_30 : Int) =>
  Option.bind (idx list t_30) fun (yt_31 : Go.Proofs.YtgimcnpkngpmiaaDoor.PPostmark.Postmark) =>
  unPostmark yt_31 fun (t_31_id : Int) (t_31_town : ByteArray) (t_31_kind_ : Int) (t_31_first : Int) (t_31_last : Int) (t_31_lost : ByteArray) =>
  Option.bind (Go.Proofs.YtgimcnpkngpmiaaDoor.GiIdOfPostmark.P (Go.Proofs.YtgimcnpkngpmiaaDoor.PPostmark.Postmark.mk t_31_id t_31_town t_31_kind_ t_31_first t_31_last t_31_lost)) fun (t_33 : Int) =>
  letK (decide (t_26 ≤ t_33)) fun (t_34 : Bool) =>
  appK jt_35 t_34) (appK jt_35 false))

def e0  (s : Unit) : Option (Bool) :=
  
  some true

def P (list : (List Go.Proofs.YtgimcnpkngpmiaaDoor.PPostmark.Postmark)) (most : Int) : Option (Bool) :=
  letK (decide (most < (list.length : Int))) fun (t_4 : Bool) =>
  iteK t_4
  (some false)
  (cntK (l0 list) (list.length) 0 () (e0 ))

set_option maxRecDepth 100000 in
set_option maxHeartbeats 2000000 in
theorem C (list : (List Go.Proofs.YtgimcnpkngpmiaaDoor.PPostmark.Postmark)) (most : Int) (A0 : Option Addr) (c0 : Nat)  (w : World) (M0 : Hid (Cells w 6 A0 list.length (Go.Proofs.YtgimcnpkngpmiaaDoor.PPostmark.flat list))) (N0 : Hid (list.length ≤ 9223372036854775807))  {r : Bool} (H : Hid (P list most = some r)) :
    Calls Tryd.prog 80 #[.slice A0 list.length c0, .int .i64 most, .func (.func 36) #[] #[], .func (.func 49) #[] #[]] w (Gives (.bool r) w) := by
  have HB := Lib.hid (Below.refl w.heap.size w)
  unfold P at H
  have N0o := N0.out
  go_enter Tryd.func80, Tryd.ntmps80
  replace H := let_hid H
  obtain ⟨t_4, ht_4, H⟩ := H
  cases t_4 with
  | false =>
    replace H := ite_f H
    go_wp2_with fail
    go_loopg [17] (list.length) (fun m_ v17_ wr => ∃ (k0 : Nat) , k0 + m_ = list.length ∧ v17_ = .int .i64 (k0 : Int) ∧ Hid (cntK (l0 list) m_ k0 () (e0 ) = some r) ∧ Hid (Below w.heap.size w wr))
    case atStart => exact ⟨0, by omega, rfl, H, HB⟩
    case round =>
      obtain ⟨k0, hkm0, rfl, H, HBwr0⟩ := hrel
      rename World => wr0
      cases gk with
      | zero =>
        obtain rfl : k0 = list.length := by omega
        have hc0 : decide (((list.length : Nat) : Int) < ((list.length : Nat) : Int)) = false := by simp
        replace H := cnt_zero H
        unfold e0 at H
        obtain rfl := ret_hid H
        go_wp2_with fail
        go_ret
        exact ⟨rfl, HBwr0.out⟩
      | succ m0 =>
        have hlt0 : k0 < list.length := by omega
        have hc0 : decide ((k0 : Int) < ((list.length : Nat) : Int)) = true := by simp; omega
        replace H := cnt_succ H
        unfold l0 at H
        replace H := idx_hid H
        obtain ⟨nt_11, yt_11, et_11, lt_11, gt_11, H⟩ := H
        obtain rfl : k0 = nt_11 := by omega
        clear et_11
        obtain ⟨t_11_id, t_11_town, t_11_kind_, t_11_first, t_11_last, t_11_lost⟩ := yt_11
        replace H := unPostmark_hid H
        obtain ⟨ab_t_11, ao_t_11, zt_11, At_11, z_t_11, ct_11_0, ct_11_1, ct_11_2, ct_11_3, ct_11_4, ct_11_5⟩ := Go.Proofs.YtgimcnpkngpmiaaDoor.OPostmark.at_ M0.out lt_11
        obtain rfl := Option.some.inj (gt_11.out.symm.trans z_t_11)
        subst At_11
        have ltt_11 := cell_lt ct_11_0
        replace ct_11_0 := cell_below HBwr0.out ct_11_0
        replace ct_11_1 := cell_below HBwr0.out ct_11_1
        replace ct_11_2 := cell_below HBwr0.out ct_11_2
        replace ct_11_3 := cell_below HBwr0.out ct_11_3
        replace ct_11_4 := cell_below HBwr0.out ct_11_4
        replace ct_11_5 := cell_below HBwr0.out ct_11_5
        clear z_t_11
        have b0t_11 : (0 : Int) ≤ (k0 : Int) := by omega
        have b1t_11 : (k0 : Int) < ((list.length : Nat) : Int) := by omega
        have b2t_11 : ((k0 : Int)).toNat = k0 := by omega
        obtain ⟨w_e_13, hw_e_13⟩ : ∃ x, wr0.alloc (.cells #[.int .i64 t_11_id, .string t_11_town, .int .i64 t_11_kind_, .int .i64 t_11_first, .int .i64 t_11_last, .string t_11_lost] 39) = x := ⟨_, rfl⟩
        have bw_e_13 : Below wr0.heap.size wr0 w_e_13 := by rw [← hw_e_13]; exact (Below.refl _ _).alloc (Nat.le_refl _) _
        have HBw_e_13 := Lib.hid (Below.step HBwr0.out bw_e_13)
        have ct_11_0__301 := cell_below bw_e_13 ct_11_0
        have ct_11_1__302 := cell_below bw_e_13 ct_11_1
        have ct_11_2__303 := cell_below bw_e_13 ct_11_2
        have ct_11_3__304 := cell_below bw_e_13 ct_11_3
        have ct_11_4__305 := cell_below bw_e_13 ct_11_4
        have ct_11_5__306 := cell_below bw_e_13 ct_11_5
        clear bw_e_13
        have ke_13_0 : w_e_13.cell? ⟨wr0.heap.size, 0, none⟩ = some (.int .i64 t_11_id) := by rw [← hw_e_13]; exact box_new _ _ _ 0 _ rfl
        have ke_13_1 : w_e_13.cell? ⟨wr0.heap.size, 1, none⟩ = some (.string t_11_town) := by rw [← hw_e_13]; exact box_new _ _ _ 1 _ rfl
        have ke_13_2 : w_e_13.cell? ⟨wr0.heap.size, 2, none⟩ = some (.int .i64 t_11_kind_) := by rw [← hw_e_13]; exact box_new _ _ _ 2 _ rfl
        have ke_13_3 : w_e_13.cell? ⟨wr0.heap.size, 3, none⟩ = some (.int .i64 t_11_first) := by rw [← hw_e_13]; exact box_new _ _ _ 3 _ rfl
        have ke_13_4 : w_e_13.cell? ⟨wr0.heap.size, 4, none⟩ = some (.int .i64 t_11_last) := by rw [← hw_e_13]; exact box_new _ _ _ 4 _ rfl
        have ke_13_5 : w_e_13.cell? ⟨wr0.heap.size, 5, none⟩ = some (.string t_11_lost) := by rw [← hw_e_13]; exact box_new _ _ _ 5 _ rfl
        go_wp2_with fail
        clear ct_11_0 ct_11_1 ct_11_2 ct_11_3 ct_11_4 ct_11_5
        have Hct_11_0__301 := Lib.hid ct_11_0__301
        replace ct_11_0__301 := cell_regrown ct_11_0__301
        have Hct_11_1__302 := Lib.hid ct_11_1__302
        replace ct_11_1__302 := cell_regrown ct_11_1__302
        have Hct_11_2__303 := Lib.hid ct_11_2__303
        replace ct_11_2__303 := cell_regrown ct_11_2__303
        have Hct_11_3__304 := Lib.hid ct_11_3__304
        replace ct_11_3__304 := cell_regrown ct_11_3__304
        have Hct_11_4__305 := Lib.hid ct_11_4__305
        replace ct_11_4__305 := cell_regrown ct_11_4__305
        have Hct_11_5__306 := Lib.hid ct_11_5__306
        replace ct_11_5__306 := cell_regrown ct_11_5__306
        have Hke_13_0 := Lib.hid ke_13_0
        replace ke_13_0 := cell_regrown ke_13_0
        have Hke_13_1 := Lib.hid ke_13_1
        replace ke_13_1 := cell_regrown ke_13_1
        have Hke_13_2 := Lib.hid ke_13_2
        replace ke_13_2 := cell_regrown ke_13_2
        have Hke_13_3 := Lib.hid ke_13_3
        replace ke_13_3 := cell_regrown ke_13_3
        have Hke_13_4 := Lib.hid ke_13_4
        replace ke_13_4 := cell_regrown ke_13_4
        have Hke_13_5 := Lib.hid ke_13_5
        replace ke_13_5 := cell_regrown ke_13_5
        replace H := bind_hid H
        obtain ⟨t_18, qt_18, H⟩ := H
        have nt_18 : ∀ d os, Calls Tryd.prog 36 #[.agg #[.int .i64 t_11_id, .string t_11_town, .int .i64 t_11_kind_, .int .i64 t_11_first, .int .i64 t_11_last, .string t_11_lost]] (Go.Sort.grow (redrawn w_e_13 d) os) fun e w'' => e = .returned (.bool t_18) ∧ ∃ p : Regrown, w'' = Go.Sort.grow (redrawn w_e_13 p.d) p.os := fun d os => Calls.regrown_of (Go.Proofs.YtgimcnpkngpmiaaDoor.GiIsPostmark.C ((Go.Proofs.YtgimcnpkngpmiaaDoor.PPostmark.Postmark.mk t_11_id t_11_town t_11_kind_ t_11_first t_11_last t_11_lost))  _    qt_18)
        cases t_18 with
        | false =>
          replace H := let_hid H
          obtain ⟨t_19, ht_19, H⟩ := H
          obtain rfl : t_19 = true := ht_19.symm
          replace H := join_hid H
          replace H := ite_t H
          replace H := app_hid H
          refine wp_region_quiet_below (by kernel_rfl) (by kernel_rfl) ?_
          repeat (go_big_quiet_step (first | (go_at_call 36; exact nt_18 _ _)))
          refine wpQuiet_nil ?_
          intro Y6 hY6
          replace hY6 := below_class hY6
          clear nt_18
          replace ct_11_0__301 := Hct_11_0__301.out
          clear Hct_11_0__301
          replace ct_11_1__302 := Hct_11_1__302.out
          clear Hct_11_1__302
          replace ct_11_2__303 := Hct_11_2__303.out
          clear Hct_11_2__303
          replace ct_11_3__304 := Hct_11_3__304.out
          clear Hct_11_3__304
          replace ct_11_4__305 := Hct_11_4__305.out
          clear Hct_11_4__305
          replace ct_11_5__306 := Hct_11_5__306.out
          clear Hct_11_5__306
          replace ke_13_0 := Hke_13_0.out
          clear Hke_13_0
          replace ke_13_1 := Hke_13_1.out
          clear Hke_13_1
          replace ke_13_2 := Hke_13_2.out
          clear Hke_13_2
          replace ke_13_3 := Hke_13_3.out
          clear Hke_13_3
          replace ke_13_4 := Hke_13_4.out
          clear Hke_13_4
          replace ke_13_5 := Hke_13_5.out
          clear Hke_13_5
          have HBY6 := Lib.hid (Below.step HBw_e_13.out hY6)
          replace ct_11_0__301 := cell_below hY6 ct_11_0__301
          replace ct_11_1__302 := cell_below hY6 ct_11_1__302
          replace ct_11_2__303 := cell_below hY6 ct_11_2__303
          replace ct_11_3__304 := cell_below hY6 ct_11_3__304
          replace ct_11_4__305 := cell_below hY6 ct_11_4__305
          replace ct_11_5__306 := cell_below hY6 ct_11_5__306
          replace ke_13_0 := cell_below hY6 ke_13_0
          replace ke_13_1 := cell_below hY6 ke_13_1
          replace ke_13_2 := cell_below hY6 ke_13_2
          replace ke_13_3 := cell_below hY6 ke_13_3
          replace ke_13_4 := cell_below hY6 ke_13_4
          replace ke_13_5 := cell_below hY6 ke_13_5
          clear hY6
          replace H := ite_t H
          obtain rfl := ret_hid H
          go_wp2_with fail
          go_ret
          exact ⟨rfl, HBY6.out⟩
        | true =>
          replace H := let_hid H
          obtain ⟨t_19, ht_19, H⟩ := H
          obtain rfl : t_19 = false := ht_19.symm
          replace H := join_hid H
          replace H := ite_f H
          replace H := let_hid H
          obtain ⟨t_22, ht_22, H⟩ := H
          replace H := join_hid H
          cases t_22 with
          | false =>
            have nht_22 : ¬ (0 < k0) := by have := of_decide_eq_false ht_22; omega
            replace H := ite_f H
            replace H := app_hid H
            replace H := app_hid H
            refine wp_region_quiet_below (by kernel_rfl) (by kernel_rfl) ?_
            repeat (go_big_quiet_step (first | (go_at_call 36; exact nt_18 _ _)))
            refine wpQuiet_nil ?_
            intro Y6 hY6
            replace hY6 := below_class hY6
            clear nt_18
            replace ct_11_0__301 := Hct_11_0__301.out
            clear Hct_11_0__301
            replace ct_11_1__302 := Hct_11_1__302.out
            clear Hct_11_1__302
            replace ct_11_2__303 := Hct_11_2__303.out
            clear Hct_11_2__303
            replace ct_11_3__304 := Hct_11_3__304.out
            clear Hct_11_3__304
            replace ct_11_4__305 := Hct_11_4__305.out
            clear Hct_11_4__305
            replace ct_11_5__306 := Hct_11_5__306.out
            clear Hct_11_5__306
            replace ke_13_0 := Hke_13_0.out
            clear Hke_13_0
            replace ke_13_1 := Hke_13_1.out
            clear Hke_13_1
            replace ke_13_2 := Hke_13_2.out
            clear Hke_13_2
            replace ke_13_3 := Hke_13_3.out
            clear Hke_13_3
            replace ke_13_4 := Hke_13_4.out
            clear Hke_13_4
            replace ke_13_5 := Hke_13_5.out
            clear Hke_13_5
            have HBY6 := Lib.hid (Below.step HBw_e_13.out hY6)
            replace ct_11_0__301 := cell_below hY6 ct_11_0__301
            replace ct_11_1__302 := cell_below hY6 ct_11_1__302
            replace ct_11_2__303 := cell_below hY6 ct_11_2__303
            replace ct_11_3__304 := cell_below hY6 ct_11_3__304
            replace ct_11_4__305 := cell_below hY6 ct_11_4__305
            replace ct_11_5__306 := cell_below hY6 ct_11_5__306
            replace ke_13_0 := cell_below hY6 ke_13_0
            replace ke_13_1 := cell_below hY6 ke_13_1
            replace ke_13_2 := cell_below hY6 ke_13_2
            replace ke_13_3 := cell_below hY6 ke_13_3
            replace ke_13_4 := cell_below hY6 ke_13_4
            replace ke_13_5 := cell_below hY6 ke_13_5
            clear hY6
            replace H := ite_f H
            replace H := app_hid H
            go_wp2_with fail
            go_roundg m0
            case measure => omega
            case rel => exact ⟨k0 + 1, by omega, by go_num, H, HBY6⟩
          | true =>
            have nht_22 : 0 < k0 := by have := of_decide_eq_true ht_22; omega
            replace H := ite_t H
            replace H := bind_hid H
            obtain ⟨t_26, qt_26, H⟩ := H
            have nt_26 : ∀ d os, Calls Tryd.prog 49 #[.agg #[.int .i64 t_11_id, .string t_11_town, .int .i64 t_11_kind_, .int .i64 t_11_first, .int .i64 t_11_last, .string t_11_lost]] (Go.Sort.grow (redrawn w_e_13 d) os) fun e w'' => e = .returned (.int .i64 t_26) ∧ ∃ p : Regrown, w'' = Go.Sort.grow (redrawn w_e_13 p.d) p.os := fun d os => Calls.regrown_of (Go.Proofs.YtgimcnpkngpmiaaDoor.GiIdOfPostmark.C ((Go.Proofs.YtgimcnpkngpmiaaDoor.PPostmark.Postmark.mk t_11_id t_11_town t_11_kind_ t_11_first t_11_last t_11_lost))  _    qt_26)
            replace H := let_hid H
            obtain ⟨t_30, ht_30, H⟩ := H
            replace H := idx_hid H
            obtain ⟨nt_31, yt_31, et_31, lt_31, gt_31, H⟩ := H
            subst et_31
            obtain ⟨t_31_id, t_31_town, t_31_kind_, t_31_first, t_31_last, t_31_lost⟩ := yt_31
            replace H := unPostmark_hid H
            obtain ⟨ab_t_31, ao_t_31, zt_31, At_31, z_t_31, ct_31_0, ct_31_1, ct_31_2, ct_31_3, ct_31_4, ct_31_5⟩ := Go.Proofs.YtgimcnpkngpmiaaDoor.OPostmark.at_ M0.out lt_31
            obtain rfl := Option.some.inj (gt_31.out.symm.trans z_t_31)
            simp only [Option.some.injEq, Addr.mk.injEq] at At_31
            obtain ⟨rfl, rfl, _⟩ := At_31
            have ltt_31 := cell_lt ct_31_0
            replace ct_31_0 := cell_below HBw_e_13.out ct_31_0
            replace ct_31_1 := cell_below HBw_e_13.out ct_31_1
            replace ct_31_2 := cell_below HBw_e_13.out ct_31_2
            replace ct_31_3 := cell_below HBw_e_13.out ct_31_3
            replace ct_31_4 := cell_below HBw_e_13.out ct_31_4
            replace ct_31_5 := cell_below HBw_e_13.out ct_31_5
            clear z_t_31
            have b0t_31 : (0 : Int) ≤ (nt_31 : Int) := by omega
            have b1t_31 : (nt_31 : Int) < ((list.length : Nat) : Int) := by omega
            have b2t_31 : ((nt_31 : Int)).toNat = nt_31 := by omega
            have Hct_31_0 := Lib.hid ct_31_0
            replace ct_31_0 := cell_regrown ct_31_0
            have Hct_31_1 := Lib.hid ct_31_1
            replace ct_31_1 := cell_regrown ct_31_1
            have Hct_31_2 := Lib.hid ct_31_2
            replace ct_31_2 := cell_regrown ct_31_2
            have Hct_31_3 := Lib.hid ct_31_3
            replace ct_31_3 := cell_regrown ct_31_3
            have Hct_31_4 := Lib.hid ct_31_4
            replace ct_31_4 := cell_regrown ct_31_4
            have Hct_31_5 := Lib.hid ct_31_5
            replace ct_31_5 := cell_regrown ct_31_5
            replace H := bind_hid H
            obtain ⟨t_33, qt_33, H⟩ := H
            have nt_33 : ∀ d os, Calls Tryd.prog 49 #[.agg #[.int .i64 t_31_id, .string t_31_town, .int .i64 t_31_kind_, .int .i64 t_31_first, .int .i64 t_31_last, .string t_31_lost]] (Go.Sort.grow (redrawn w_e_13 d) os) fun e w'' => e = .returned (.int .i64 t_33) ∧ ∃ p : Regrown, w'' = Go.Sort.grow (redrawn w_e_13 p.d) p.os := fun d os => Calls.regrown_of (Go.Proofs.YtgimcnpkngpmiaaDoor.GiIdOfPostmark.C ((Go.Proofs.YtgimcnpkngpmiaaDoor.PPostmark.Postmark.mk t_31_id t_31_town t_31_kind_ t_31_first t_31_last t_31_lost))  _    qt_33)
            replace H := let_hid H
            obtain ⟨t_34, ht_34, H⟩ := H
            replace H := app_hid H
            replace H := app_hid H
            refine wp_region_quiet_below (by kernel_rfl) (by kernel_rfl) ?_
            repeat (go_big_quiet_step (first | (go_at_call 49; with_reducible exact nt_26 _ _) | (go_at_call 49; with_reducible exact nt_33 _ _) | (go_at_call 36; exact nt_18 _ _) | (go_at_call 49; exact nt_26 _ _) | (go_at_call 49; exact nt_33 _ _)))
            refine wpQuiet_nil ?_
            intro Y6 hY6
            replace hY6 := below_class hY6
            clear nt_18 nt_26 nt_33
            replace ct_11_0__301 := Hct_11_0__301.out
            clear Hct_11_0__301
            replace ct_11_1__302 := Hct_11_1__302.out
            clear Hct_11_1__302
            replace ct_11_2__303 := Hct_11_2__303.out
            clear Hct_11_2__303
            replace ct_11_3__304 := Hct_11_3__304.out
            clear Hct_11_3__304
            replace ct_11_4__305 := Hct_11_4__305.out
            clear Hct_11_4__305
            replace ct_11_5__306 := Hct_11_5__306.out
            clear Hct_11_5__306
            replace ke_13_0 := Hke_13_0.out
            clear Hke_13_0
            replace ke_13_1 := Hke_13_1.out
            clear Hke_13_1
            replace ke_13_2 := Hke_13_2.out
            clear Hke_13_2
            replace ke_13_3 := Hke_13_3.out
            clear Hke_13_3
            replace ke_13_4 := Hke_13_4.out
            clear Hke_13_4
            replace ke_13_5 := Hke_13_5.out
            clear Hke_13_5
            replace ct_31_0 := Hct_31_0.out
            clear Hct_31_0
            replace ct_31_1 := Hct_31_1.out
            clear Hct_31_1
            replace ct_31_2 := Hct_31_2.out
            clear Hct_31_2
            replace ct_31_3 := Hct_31_3.out
            clear Hct_31_3
            replace ct_31_4 := Hct_31_4.out
            clear Hct_31_4
            replace ct_31_5 := Hct_31_5.out
            clear Hct_31_5
            have HBY6 := Lib.hid (Below.step HBw_e_13.out hY6)
            replace ct_11_0__301 := cell_below hY6 ct_11_0__301
            replace ct_11_1__302 := cell_below hY6 ct_11_1__302
            replace ct_11_2__303 := cell_below hY6 ct_11_2__303
            replace ct_11_3__304 := cell_below hY6 ct_11_3__304
            replace ct_11_4__305 := cell_below hY6 ct_11_4__305
            replace ct_11_5__306 := cell_below hY6 ct_11_5__306
            replace ke_13_0 := cell_below hY6 ke_13_0
            replace ke_13_1 := cell_below hY6 ke_13_1
            replace ke_13_2 := cell_below hY6 ke_13_2
            replace ke_13_3 := cell_below hY6 ke_13_3
            replace ke_13_4 := cell_below hY6 ke_13_4
            replace ke_13_5 := cell_below hY6 ke_13_5
            replace ct_31_0 := cell_below hY6 ct_31_0
            replace ct_31_1 := cell_below hY6 ct_31_1
            replace ct_31_2 := cell_below hY6 ct_31_2
            replace ct_31_3 := cell_below hY6 ct_31_3
            replace ct_31_4 := cell_below hY6 ct_31_4
            replace ct_31_5 := cell_below hY6 ct_31_5
            clear hY6
            cases t_34 with
            | false =>
              replace H := ite_f H
              replace H := app_hid H
              go_wp2_with fail
              go_roundg m0
              case measure => omega
              case rel => exact ⟨k0 + 1, by omega, by go_num, H, HBY6⟩
            | true =>
              replace H := ite_t H
              obtain rfl := ret_hid H
              go_wp2_with fail
              go_ret
              exact ⟨rfl, HBY6.out⟩
  | true =>
    replace H := ite_t H
    obtain rfl := ret_hid H
    go_wp2_with fail
    go_ret
    exact ⟨rfl, HB.out⟩
end Go.Proofs.YtgimcnpkngpmiaaDoor.GiAreByKeyPostmarkIntiIsPostmarkiIdOfPostmark

/- loop.example/g01062/impl.ArePostmarks as a plain function, and the contract of the program's: where the plain one has an answer, the program has it. Conditions: slices read as lists. -/
namespace Go.Proofs.YtgimcnpkngpmiaaDoor.GiArePostmarks
set_option linter.unusedVariables false
set_option linter.unusedSimpArgs false
open Go.RowKit
open Go.Proofs.YtgimcnpkngpmiaaDoor.Rowed Go.Proofs.YtgimcnpkngpmiaaDoor.Turn Go.Proofs.YtgimcnpkngpmiaaDoor.Aid Go.Proofs.YtgimcnpkngpmiaaDoor.GoP Go.Proofs.YtgimcnpkngpmiaaDoor.GoM

def P (list : (List Go.Proofs.YtgimcnpkngpmiaaDoor.PPostmark.Postmark)) : Option (Bool) :=
  Option.bind (Go.Proofs.YtgimcnpkngpmiaaDoor.GiAreByKeyPostmarkIntiIsPostmarkiIdOfPostmark.P list 12) fun (t_2 : Bool) =>
  some t_2

set_option maxRecDepth 100000 in
set_option maxHeartbeats 2000000 in
theorem C (list : (List Go.Proofs.YtgimcnpkngpmiaaDoor.PPostmark.Postmark)) (A0 : Option Addr) (c0 : Nat)  (w : World) (M0 : Hid (Cells w 6 A0 list.length (Go.Proofs.YtgimcnpkngpmiaaDoor.PPostmark.flat list))) (N0 : Hid (list.length ≤ 9223372036854775807))  {r : Bool} (H : Hid (P list = some r)) :
    Calls Tryd.prog 38 #[.slice A0 list.length c0] w (Gives (.bool r) w) := by
  have HB := Lib.hid (Below.refl w.heap.size w)
  unfold P at H
  have N0o := N0.out
  go_enter Tryd.func38, Tryd.ntmps38
  replace H := bind_hid H
  obtain ⟨t_2, qt_2, H⟩ := H
  go_wp2_with fail
  go_at_call 80
  refine (Go.Proofs.YtgimcnpkngpmiaaDoor.GiAreByKeyPostmarkIntiIsPostmarkiIdOfPostmark.C (list) (12) A0 c0 _   (Lib.hid (Cells.below M0.out HB.out)) N0 qt_2).mono ?_
  rintro e_t_2 wt_2 ⟨rfl, bt_2⟩
  have HBwt_2 := Lib.hid (Below.step HB.out bt_2)
  clear bt_2
  obtain rfl := ret_hid H
  go_wp2_with fail
  go_ret
  exact ⟨rfl, HBwt_2.out⟩
end Go.Proofs.YtgimcnpkngpmiaaDoor.GiArePostmarks

/- loop.example/g01062/impl.indexOfPostmark$1 as a plain function, and the contract of the program's: where the plain one has an answer, the program has it. Conditions: slices read as lists. -/
namespace Go.Proofs.YtgimcnpkngpmiaaDoor.GiIndexOfPostmark1
set_option linter.unusedVariables false
set_option linter.unusedSimpArgs false
open Go.RowKit
open Go.Proofs.YtgimcnpkngpmiaaDoor.Rowed Go.Proofs.YtgimcnpkngpmiaaDoor.Turn Go.Proofs.YtgimcnpkngpmiaaDoor.Aid Go.Proofs.YtgimcnpkngpmiaaDoor.GoP Go.Proofs.YtgimcnpkngpmiaaDoor.GoM

def P (p : Go.Proofs.YtgimcnpkngpmiaaDoor.PPostmark.Postmark) (hq0 : Int) : Option (Bool) :=
  unPostmark p fun (p_id : Int) (p_town : ByteArray) (p_kind_ : Int) (p_first : Int) (p_last : Int) (p_lost : ByteArray) =>
  letK (p_id == hq0) fun (t_5 : Bool) =>
  some t_5

set_option maxRecDepth 100000 in
set_option maxHeartbeats 2000000 in
theorem C (p : Go.Proofs.YtgimcnpkngpmiaaDoor.PPostmark.Postmark) (hq0 : Int)  (gq0 : Nat) (w : World)  (Fq0h : Hid (w.cell? ⟨gq0, 0, none⟩ = some (.int .i64 hq0))) {r : Bool} (H : Hid (P p hq0 = some r)) :
    Calls Tryd.prog 86 #[p.val, .pointer (some ⟨gq0, 0, none⟩)] w (Gives (.bool r) w) := by
  have HB := Lib.hid (Below.refl w.heap.size w)
  unfold P at H
  obtain ⟨p_id, p_town, p_kind_, p_first, p_last, p_lost⟩ := p
  replace H := unPostmark_hid H
  unfold Go.Proofs.YtgimcnpkngpmiaaDoor.PPostmark.Postmark.val
  have Fq0 := Fq0h.out
  go_enter Tryd.func86, Tryd.ntmps86
  obtain ⟨w_p_0, hw_p_0⟩ : ∃ x, w.alloc (.cells #[.int .i64 p_id, .string p_town, .int .i64 p_kind_, .int .i64 p_first, .int .i64 p_last, .string p_lost] 39) = x := ⟨_, rfl⟩
  have bw_p_0 : Below w.heap.size w w_p_0 := by rw [← hw_p_0]; exact (Below.refl _ _).alloc (Nat.le_refl _) _
  have HBw_p_0 := Lib.hid (Below.step HB.out bw_p_0)
  have Fq0__307 := cell_below bw_p_0 Fq0
  clear bw_p_0
  have kp_0_0 : w_p_0.cell? ⟨w.heap.size, 0, none⟩ = some (.int .i64 p_id) := by rw [← hw_p_0]; exact box_new _ _ _ 0 _ rfl
  have kp_0_1 : w_p_0.cell? ⟨w.heap.size, 1, none⟩ = some (.string p_town) := by rw [← hw_p_0]; exact box_new _ _ _ 1 _ rfl
  have kp_0_2 : w_p_0.cell? ⟨w.heap.size, 2, none⟩ = some (.int .i64 p_kind_) := by rw [← hw_p_0]; exact box_new _ _ _ 2 _ rfl
  have kp_0_3 : w_p_0.cell? ⟨w.heap.size, 3, none⟩ = some (.int .i64 p_first) := by rw [← hw_p_0]; exact box_new _ _ _ 3 _ rfl
  have kp_0_4 : w_p_0.cell? ⟨w.heap.size, 4, none⟩ = some (.int .i64 p_last) := by rw [← hw_p_0]; exact box_new _ _ _ 4 _ rfl
  have kp_0_5 : w_p_0.cell? ⟨w.heap.size, 5, none⟩ = some (.string p_lost) := by rw [← hw_p_0]; exact box_new _ _ _ 5 _ rfl
  replace H := let_hid H
  obtain ⟨t_5, ht_5, H⟩ := H
  obtain rfl := ret_hid H
  go_wp2_with fail
  go_ret
  exact ⟨rfl, HBw_p_0.out⟩
end Go.Proofs.YtgimcnpkngpmiaaDoor.GiIndexOfPostmark1

/- slices.IndexFunc[[]loop.example/g01062/impl.Postmark,loop.example/g01062/impl.Postmark] as a plain function, and the contract of the program's: where the plain one has an answer, the program has it. Conditions: slices read as lists. -/
namespace Go.Proofs.YtgimcnpkngpmiaaDoor.GxSlicesIndexFuncLoopExampleG01062ImplPostmarkLoopExampleG01062ImplPostmarkiIndexOfPostmark1
set_option linter.unusedVariables false
set_option linter.unusedSimpArgs false
open Go.RowKit
open Go.Proofs.YtgimcnpkngpmiaaDoor.Rowed Go.Proofs.YtgimcnpkngpmiaaDoor.Turn Go.Proofs.YtgimcnpkngpmiaaDoor.Aid Go.Proofs.YtgimcnpkngpmiaaDoor.GoP Go.Proofs.YtgimcnpkngpmiaaDoor.GoM

def l0 (s_0 : (List Go.Proofs.YtgimcnpkngpmiaaDoor.PPostmark.Postmark)) (hf1_0 : Int) (k0 : Nat) (s : Unit) (nx0 bk0 : Unit → Option (Int)) : Option (Int) :=
  
  Option.bind (idx s_0 (k0 : Int)) fun (yt_10 : Go.Proofs.YtgimcnpkngpmiaaDoor.PPostmark.Postmark) =>
  unPostmark yt_10 fun (t_10_id : Int) (t_10_town : ByteArray) (t_10_kind_ : Int) (t_10_first : Int) (t_10_last : Int) (t_10_lost : ByteArray) =>
  Option.bind (Go.Proofs.YtgimcnpkngpmiaaDoor.GiIndexOfPostmark1.P (Go.Proofs.YtgimcnpkngpmiaaDoor.PPostmark.Postmark.mk t_10_id t_10_town t_10_kind_ t_10_first t_10_last t_10_lost) hf1_0) fun (t_12 : Bool) =>
  iteK t_12
  (some (k0 : Int))
  (appK nx0 ())

def e0  (s : Unit) : Option (Int) :=
  
  some (-1)

def P (s_0 : (List Go.Proofs.YtgimcnpkngpmiaaDoor.PPostmark.Postmark)) (hf1_0 : Int) : Option (Int) :=
  cntK (l0 s_0 hf1_0) (s_0.length) 0 () (e0 )

set_option maxRecDepth 100000 in
set_option maxHeartbeats 2000000 in
theorem C (s_0 : (List Go.Proofs.YtgimcnpkngpmiaaDoor.PPostmark.Postmark)) (hf1_0 : Int) (A0 : Option Addr) (c0 : Nat) (gf1_0 : Nat) (w : World) (M0 : Hid (Cells w 6 A0 s_0.length (Go.Proofs.YtgimcnpkngpmiaaDoor.PPostmark.flat s_0))) (N0 : Hid (s_0.length ≤ 9223372036854775807)) (Ff1_0h : Hid (w.cell? ⟨gf1_0, 0, none⟩ = some (.int .i64 hf1_0))) {r : Int} (H : Hid (P s_0 hf1_0 = some r)) :
    Calls Tryd.prog 85 #[.slice A0 s_0.length c0, .func (.func 86) #[] #[.pointer (some ⟨gf1_0, 0, none⟩)]] w (Gives (.int .i64 r) w) := by
  have HB := Lib.hid (Below.refl w.heap.size w)
  unfold P at H
  have N0o := N0.out
  have Ff1_0 := Ff1_0h.out
  go_enter Tryd.func85, Tryd.ntmps85
  go_wp2_with fail
  go_loopg [8] (s_0.length) (fun m_ v8_ wr => ∃ (k0 : Nat) , k0 + m_ = s_0.length ∧ v8_ = .int .i64 (k0 : Int) ∧ Hid (cntK (l0 s_0 hf1_0) m_ k0 () (e0 ) = some r) ∧ Hid (Below w.heap.size w wr) ∧ wr.cell? ⟨gf1_0, 0, none⟩ = some (.int .i64 hf1_0))
  case atStart => exact ⟨0, by omega, rfl, H, HB, Ff1_0⟩
  case round =>
    obtain ⟨k0, hkm0, rfl, H, HBwr0, Ff1_0⟩ := hrel
    rename World => wr0
    cases gk with
    | zero =>
      obtain rfl : k0 = s_0.length := by omega
      have hc0 : decide (((s_0.length : Nat) : Int) < ((s_0.length : Nat) : Int)) = false := by simp
      replace H := cnt_zero H
      unfold e0 at H
      obtain rfl := ret_hid H
      go_wp2_with fail
      go_ret
      exact ⟨rfl, HBwr0.out⟩
    | succ m0 =>
      have hlt0 : k0 < s_0.length := by omega
      have hc0 : decide ((k0 : Int) < ((s_0.length : Nat) : Int)) = true := by simp; omega
      replace H := cnt_succ H
      unfold l0 at H
      replace H := idx_hid H
      obtain ⟨nt_10, yt_10, et_10, lt_10, gt_10, H⟩ := H
      obtain rfl : k0 = nt_10 := by omega
      clear et_10
      obtain ⟨t_10_id, t_10_town, t_10_kind_, t_10_first, t_10_last, t_10_lost⟩ := yt_10
      replace H := unPostmark_hid H
      obtain ⟨ab_t_10, ao_t_10, zt_10, At_10, z_t_10, ct_10_0, ct_10_1, ct_10_2, ct_10_3, ct_10_4, ct_10_5⟩ := Go.Proofs.YtgimcnpkngpmiaaDoor.OPostmark.at_ M0.out lt_10
      obtain rfl := Option.some.inj (gt_10.out.symm.trans z_t_10)
      subst At_10
      have ltt_10 := cell_lt ct_10_0
      replace ct_10_0 := cell_below HBwr0.out ct_10_0
      replace ct_10_1 := cell_below HBwr0.out ct_10_1
      replace ct_10_2 := cell_below HBwr0.out ct_10_2
      replace ct_10_3 := cell_below HBwr0.out ct_10_3
      replace ct_10_4 := cell_below HBwr0.out ct_10_4
      replace ct_10_5 := cell_below HBwr0.out ct_10_5
      clear z_t_10
      have b0t_10 : (0 : Int) ≤ (k0 : Int) := by omega
      have b1t_10 : (k0 : Int) < ((s_0.length : Nat) : Int) := by omega
      have b2t_10 : ((k0 : Int)).toNat = k0 := by omega
      replace H := bind_hid H
      obtain ⟨t_12, qt_12, H⟩ := H
      go_wp2_with fail
      go_at_call 86
      refine (Go.Proofs.YtgimcnpkngpmiaaDoor.GiIndexOfPostmark1.C ((Go.Proofs.YtgimcnpkngpmiaaDoor.PPostmark.Postmark.mk t_10_id t_10_town t_10_kind_ t_10_first t_10_last t_10_lost)) (hf1_0) (gf1_0) _   (Lib.hid Ff1_0) qt_12).mono ?_
      rintro e_t_12 wt_12 ⟨rfl, bt_12⟩
      have HBwt_12 := Lib.hid (Below.step HBwr0.out bt_12)
      replace Ff1_0 := cell_below bt_12 Ff1_0
      replace ct_10_0 := cell_below bt_12 ct_10_0
      replace ct_10_1 := cell_below bt_12 ct_10_1
      replace ct_10_2 := cell_below bt_12 ct_10_2
      replace ct_10_3 := cell_below bt_12 ct_10_3
      replace ct_10_4 := cell_below bt_12 ct_10_4
      replace ct_10_5 := cell_below bt_12 ct_10_5
      clear bt_12
      cases t_12 with
      | false =>
        replace H := ite_f H
        replace H := app_hid H
        go_wp2_with fail
        go_roundg m0
        case measure => omega
        case rel => exact ⟨k0 + 1, by omega, by go_num, H, HBwt_12, Ff1_0⟩
      | true =>
        replace H := ite_t H
        obtain rfl := ret_hid H
        go_wp2_with fail
        go_ret
        exact ⟨rfl, HBwt_12.out⟩
end Go.Proofs.YtgimcnpkngpmiaaDoor.GxSlicesIndexFuncLoopExampleG01062ImplPostmarkLoopExampleG01062ImplPostmarkiIndexOfPostmark1

/- loop.example/g01062/impl.indexOfPostmark as a plain function, and the contract of the program's: where the plain one has an answer, the program has it. Conditions: slices read as lists. -/
namespace Go.Proofs.YtgimcnpkngpmiaaDoor.GiIndexOfPostmark
set_option linter.unusedVariables false
set_option linter.unusedSimpArgs false
open Go.RowKit
open Go.Proofs.YtgimcnpkngpmiaaDoor.Rowed Go.Proofs.YtgimcnpkngpmiaaDoor.Turn Go.Proofs.YtgimcnpkngpmiaaDoor.Aid Go.Proofs.YtgimcnpkngpmiaaDoor.GoP Go.Proofs.YtgimcnpkngpmiaaDoor.GoM

def P (list : (List Go.Proofs.YtgimcnpkngpmiaaDoor.PPostmark.Postmark)) (id : Int) : Option (Int) :=
  Option.bind (Go.Proofs.YtgimcnpkngpmiaaDoor.GiArePostmarks.P list) fun (t_3 : Bool) =>
  letK (!t_3) fun (t_4 : Bool) =>
  iteK t_4
  (some (-1))
  (Option.bind (Go.Proofs.YtgimcnpkngpmiaaDoor.GxSlicesIndexFuncLoopExampleG01062ImplPostmarkLoopExampleG01062ImplPostmarkiIndexOfPostmark1.P list id) fun (t_8 : Int) =>
  some t_8)

set_option maxRecDepth 100000 in
set_option maxHeartbeats 2000000 in
theorem C (list : (List Go.Proofs.YtgimcnpkngpmiaaDoor.PPostmark.Postmark)) (id : Int) (A0 : Option Addr) (c0 : Nat)  (w : World) (M0 : Hid (Cells w 6 A0 list.length (Go.Proofs.YtgimcnpkngpmiaaDoor.PPostmark.flat list))) (N0 : Hid (list.length ≤ 9223372036854775807))  {r : Int} (H : Hid (P list id = some r)) :
    Calls Tryd.prog 63 #[.slice A0 list.length c0, .int .i64 id] w (Gives (.int .i64 r) w) := by
  have HB := Lib.hid (Below.refl w.heap.size w)
  unfold P at H
  have N0o := N0.out
  go_enter Tryd.func63, Tryd.ntmps63
  obtain ⟨w_id_0, hw_id_0⟩ : ∃ x, w.alloc (.cells #[.int .i64 id] 3) = x := ⟨_, rfl⟩
  have bw_id_0 : Below w.heap.size w w_id_0 := by rw [← hw_id_0]; exact (Below.refl _ _).alloc (Nat.le_refl _) _
  have HBw_id_0 := Lib.hid (Below.step HB.out bw_id_0)
  clear bw_id_0
  have kid_0_0 : w_id_0.cell? ⟨w.heap.size, 0, none⟩ = some (.int .i64 id) := by rw [← hw_id_0]; exact box_new _ _ _ 0 _ rfl
  replace H := bind_hid H
  obtain ⟨t_3, qt_3, H⟩ := H
  go_wp2_with fail
  go_at_call 38
  refine (Go.Proofs.YtgimcnpkngpmiaaDoor.GiArePostmarks.C (list) A0 c0 _   (Lib.hid (Cells.below M0.out HBw_id_0.out)) N0 qt_3).mono ?_
  rintro e_t_3 wt_3 ⟨rfl, bt_3⟩
  have HBwt_3 := Lib.hid (Below.step HBw_id_0.out bt_3)
  replace kid_0_0 := cell_below bt_3 kid_0_0
  clear bt_3
  cases t_3 with
  | false =>
    replace H := let_hid H
    obtain ⟨t_4, ht_4, H⟩ := H
    obtain rfl : t_4 = true := ht_4.symm
    replace H := ite_t H
    obtain rfl := ret_hid H
    go_wp2_with fail
    go_ret
    exact ⟨rfl, HBwt_3.out⟩
  | true =>
    replace H := let_hid H
    obtain ⟨t_4, ht_4, H⟩ := H
    obtain rfl : t_4 = false := ht_4.symm
    replace H := ite_f H
    replace H := bind_hid H
    obtain ⟨t_8, qt_8, H⟩ := H
    go_wp2_with fail
    go_at_call 85
    refine (Go.Proofs.YtgimcnpkngpmiaaDoor.GxSlicesIndexFuncLoopExampleG01062ImplPostmarkLoopExampleG01062ImplPostmarkiIndexOfPostmark1.C (list) (id) A0 c0 (w.heap.size) _   (Lib.hid (Cells.below M0.out HBwt_3.out)) N0 (Lib.hid kid_0_0) qt_8).mono ?_
    rintro e_t_8 wt_8 ⟨rfl, bt_8⟩
    have HBwt_8 := Lib.hid (Below.step HBwt_3.out bt_8)
    replace kid_0_0 := cell_below bt_8 kid_0_0
    clear bt_8
    obtain rfl := ret_hid H
    go_wp2_with fail
    go_ret
    exact ⟨rfl, HBwt_8.out⟩
end Go.Proofs.YtgimcnpkngpmiaaDoor.GiIndexOfPostmark

/- More words for the contracts of plain functions: a test against nil, a row that is handed over, a row whose end is cleared. No condition. -/
namespace Go.Proofs.YtgimcnpkngpmiaaDoor.GoK
set_option linter.unusedVariables false
open Go.RowKit
open Go.Proofs.YtgimcnpkngpmiaaDoor.Rowed Go.Proofs.YtgimcnpkngpmiaaDoor.Turn Go.Proofs.YtgimcnpkngpmiaaDoor.GoM

/-- a test of a row against nil: only an empty row can be nil, and then both ways have one answer -/
def nilK {α ρ : Type} (l : List α) (f : Bool → Option ρ) : Option ρ := f false
theorem nilK_hid {α ρ : Type} {l : List α} {f : Bool → Option ρ} {r : ρ} (H : Hid (nilK l f = some r)) (b : Bool) (hb : b = true → l = []) (he : l = [] → f true = f false) : Hid (f b = some r) := by
  have h : f false = some r := H
  cases b with
  | false => exact h
  | true => exact (he (hb rfl)).trans h
theorem nil_cells {w : World} {K n : Nat} {A : Option Addr} {α : Type} {l : List α} {cs : List Value} (h : Cells w K A n cs) (hl : cs = [] → l = []) : A.isNone = true → l = [] := by
  intro hA
  refine hl ?_
  cases hc : cs with
  | nil => rfl
  | cons y ys => obtain ⟨a, e, _⟩ := h.2 (by rw [hc]; simp); rw [e] at hA; simp at hA
/-- where a row lies that a function hands on: where another one lay, or behind all that was there -/
def From (w : World) (A A' : Option Addr) : Prop := ∀ a', A' = some a' → (∃ a, A = some a ∧ a.block = a'.block) ∨ w.heap.size ≤ a'.block
theorem from_self {w : World} {A : Option Addr} : From w A A := fun a h => .inl ⟨a, h, rfl⟩
theorem apart_from {w : World} {A A' B : Option Addr} (hD : Apart A B) (hB : ∀ a, B = some a → a.block < w.heap.size) (h : From w A A') : Apart A' B := by
  intro a a' ha ha' e
  have hl := hB a' ha'
  rcases h a ha with ⟨a2, h2, e2⟩ | h2
  · exact hD a2 a' h2 ha' (e2.trans e)
  · omega
theorem own_setCells {b T K n c g : Nat} : ∀ (vs : List Value) (o : Nat) {w : World} {xs : List Value}, w.ownsRow b T K (.slice (some ⟨g, 0, none⟩) n c) n xs → o + vs.length ≤ xs.length →
    (w.setCells g o vs).ownsRow b T K (.slice (some ⟨g, 0, none⟩) n c) n (xs.take o ++ vs ++ xs.drop (o + vs.length)) ∧ w.grownBy (w.setCells g o vs) (some g) := by
  intro vs
  induction vs with
  | nil => intro o w xs h _; exact ⟨by simpa [World.setCells] using h, Aid.grown_refl _ _⟩
  | cons v vs ih =>
    intro o w xs h hl
    simp only [List.length_cons] at hl
    have h1 := h.stored o v
    have h2 := ih (o + 1) h1.1 (by rw [List.length_set]; omega)
    refine ⟨?_, Aid.grown_tr h1.2 h2.2⟩
    have e : (xs.set o v).take (o + 1) ++ vs ++ (xs.set o v).drop (o + 1 + vs.length) = xs.take o ++ (v :: vs) ++ xs.drop (o + (v :: vs).length) := by
      have ho : o < xs.length := by omega
      rw [List.drop_set_of_lt (by omega), List.take_add_one, List.getElem?_set_self ho, List.take_set_of_le (Nat.le_refl _)]
      simp [Nat.add_comm, Nat.add_left_comm]
    rw [← e]
    exact h2.1
end Go.Proofs.YtgimcnpkngpmiaaDoor.GoK

/- slices.Clone[[]loop.example/g01062/impl.Postmark,loop.example/g01062/impl.Postmark] as a plain function, and the contract of the program's: where the plain one has an answer, the program has it. Conditions: slices read as lists. -/
namespace Go.Proofs.YtgimcnpkngpmiaaDoor.GxSlicesCloneLoopExampleG01062ImplPostmarkLoopExampleG01062ImplPostmark
set_option linter.unusedVariables false
set_option linter.unusedSimpArgs false
open Go.RowKit
open Go.Proofs.YtgimcnpkngpmiaaDoor.Rowed Go.Proofs.YtgimcnpkngpmiaaDoor.Turn Go.Proofs.YtgimcnpkngpmiaaDoor.Aid Go.Proofs.YtgimcnpkngpmiaaDoor.GoP Go.Proofs.YtgimcnpkngpmiaaDoor.GoM

def P (s_0 : (List Go.Proofs.YtgimcnpkngpmiaaDoor.PPostmark.Postmark)) : Option ((List Go.Proofs.YtgimcnpkngpmiaaDoor.PPostmark.Postmark)) :=
  Go.Proofs.YtgimcnpkngpmiaaDoor.GoK.nilK s_0 fun (nt_2 : Bool) =>
  iteK nt_2
  (some [])
  (guardK (([] : List Go.Proofs.YtgimcnpkngpmiaaDoor.PPostmark.Postmark).length + s_0.length ≤ 1099511627776) <|
  letK (([] : List Go.Proofs.YtgimcnpkngpmiaaDoor.PPostmark.Postmark) ++ s_0) fun (t_6 : (List Go.Proofs.YtgimcnpkngpmiaaDoor.PPostmark.Postmark)) =>
  some t_6)

set_option maxRecDepth 100000 in
set_option maxHeartbeats 2000000 in
theorem C (s_0 : (List Go.Proofs.YtgimcnpkngpmiaaDoor.PPostmark.Postmark)) (A0 : Option Addr) (c0 : Nat)  (w : World) (M0 : Hid (Cells w 6 A0 s_0.length (Go.Proofs.YtgimcnpkngpmiaaDoor.PPostmark.flat s_0))) (N0 : Hid (s_0.length ≤ 9223372036854775807)) (Q0 : Hid (Room A0 s_0.length c0))  {r : (List Go.Proofs.YtgimcnpkngpmiaaDoor.PPostmark.Postmark)} (H : Hid (P s_0 = some r)) :
    Calls Tryd.prog 65 #[.slice A0 s_0.length c0] w (fun e w' => ∃ A_r c_r, e = .returned (.slice A_r r.length c_r) ∧ w'.ownsRow w.heap.size 39 6 (.slice A_r r.length c_r) r.length (Go.Proofs.YtgimcnpkngpmiaaDoor.PPostmark.flat r) ∧ Below w.heap.size w w') := by
  have HB := Lib.hid (Below.refl w.heap.size w)
  unfold P at H
  have N0o := N0.out
  obtain ⟨i0_39, hi_39, hz0_39, hz1_39, hz2_39⟩ := Aid.info_parts (P := Tryd.prog) (T := 39) (z := .agg #[.int .i64 0, .string ByteArray.empty, .int .i64 0, .int .i64 0, .int .i64 0, .string ByteArray.empty]) (s := 6) (b := 64) (by kernel_rfl)
  go_enter Tryd.func65, Tryd.ntmps65
  have mt_2 := Go.Proofs.YtgimcnpkngpmiaaDoor.GoK.nil_cells (l := s_0) (Cells.below M0.out HB.out) (fun h_ => by cases s_0 with | nil => rfl | cons y_ ys_ => simp [Go.Proofs.YtgimcnpkngpmiaaDoor.PPostmark.flat, Go.Proofs.YtgimcnpkngpmiaaDoor.PPostmark.Postmark.cells] at h_)
  obtain ⟨nt_2, ht_2⟩ : ∃ z_, (A0 : Option Addr).isNone = z_ := ⟨_, rfl⟩
  have rt_2 : ∀ W_, (binOp .eql 27 (.slice A0 s_0.length c0) (.slice none 0 0)).run Tryd.prog W_ = .ok (.bool nt_2) W_ := by intro W_; rw [← ht_2]; exact Lib.run_eql_slice_nil W_ _ _ _ _ _ _ _ Tryd.underlying27
  replace H := Go.Proofs.YtgimcnpkngpmiaaDoor.GoK.nilK_hid H nt_2 (by rw [← ht_2]; exact mt_2) (by intro h_; subst h_; rfl)
  clear mt_2 ht_2
  cases nt_2 with
  | false =>
    replace H := ite_f H
    obtain ⟨w_t_4, hw_t_4⟩ : ∃ x, w.alloc (.cells #[] 39) = x := ⟨_, rfl⟩
    have bw_t_4 : Below w.heap.size w w_t_4 := by rw [← hw_t_4]; exact (Below.refl _ _).alloc (Nat.le_refl _) _
    have Ot_4 : Hid (w_t_4.ownsRow w.heap.size 39 6 (.slice (some ⟨w.heap.size, 0, none⟩) 0 0) 0 []) := Lib.hid (by rw [← hw_t_4]; exact own_empty HB.out.size)
    have HBw_t_4 := Lib.hid (Below.step HB.out bw_t_4)
    clear bw_t_4
    replace H := guard_hid H
    obtain ⟨hlt_6, H⟩ := H
    replace H := let_hid H
    obtain ⟨t_6, ht_6, H⟩ := H
    have hht_6 := Lib.hid ht_6
    clear ht_6
    have hst_6 := HBw_t_4.out.size
    have Ct_6 := Lib.hid ((Cells.below M0.out HBw_t_4.out))
    go_wp2_with (at_builtin; refine append_spread rfl _ _ 27 rfl w.heap.size 39 i0_39 (.agg #[.int .i64 0, .string ByteArray.empty, .int .i64 0, .int .i64 0, .int .i64 0, .string ByteArray.empty]) 6 64 Tryd.underlying27 hi_39 hz0_39 hz1_39 hz2_39 rfl (by decide) (some ⟨w.heap.size, 0, none⟩) 0 0 _ rfl Ot_4.out A0 s_0.length c0 (Go.Proofs.YtgimcnpkngpmiaaDoor.PPostmark.flat s_0) rfl Q0.out Ct_6.out (fun u hu => by obtain ⟨y_, _, hy_⟩ := List.mem_flatMap.1 hu; simp only [Go.Proofs.YtgimcnpkngpmiaaDoor.PPostmark.Postmark.cells, List.mem_cons, List.not_mem_nil, or_false] at hy_; rcases hy_ with rfl | rfl | rfl | rfl | rfl | rfl <;> rfl) (by unfold maxLen; simp only [List.length_nil] at hlt_6; omega) (by simp only [List.length_nil] at hlt_6; omega) hst_6 ?_; intro vt_6 wt_6 ot_6 gt_6 yt_6; obtain ⟨At_6, ct_6, rfl, pt_6⟩ := own_pushS (f := Go.Proofs.YtgimcnpkngpmiaaDoor.PPostmark.flat) hht_6.out (by simp [Go.Proofs.YtgimcnpkngpmiaaDoor.PPostmark.flat]) rfl ot_6; have Pt_6 := Lib.hid pt_6; have Yt_6 := Lib.hid yt_6; have Gt_6 := Lib.hid gt_6; clear ot_6 gt_6 pt_6 yt_6; refine stop_in ?_)
    refine stop_out ?_
    clear Ct_6
    have HBwt_6 := Lib.hid (HBw_t_4.out.grown Gt_6.out hst_6 (fun q hq => (Ot_4.out.lt q hq).1))
    clear hst_6
    clear Ot_4 Yt_6 Gt_6
    obtain rfl := ret_hid H
    go_wp2_with fail
    go_ret
    exact ⟨At_6, ct_6, rfl, Pt_6.out, HBwt_6.out⟩
  | true =>
    replace H := ite_t H
    obtain rfl := ret_hid H
    go_wp2_with fail
    go_ret
    exact ⟨none, 0, rfl, own_nil, HB.out⟩
end Go.Proofs.YtgimcnpkngpmiaaDoor.GxSlicesCloneLoopExampleG01062ImplPostmarkLoopExampleG01062ImplPostmark

/- loop.example/g01062/impl.LoseLetter as a plain function, and the contract of the program's: where the plain one has an answer, the program has it. Conditions: slices read as lists. -/
namespace Go.Proofs.YtgimcnpkngpmiaaDoor.GiLoseLetter
set_option linter.unusedVariables false
set_option linter.unusedSimpArgs false
open Go.RowKit
open Go.Proofs.YtgimcnpkngpmiaaDoor.Rowed Go.Proofs.YtgimcnpkngpmiaaDoor.Turn Go.Proofs.YtgimcnpkngpmiaaDoor.Aid Go.Proofs.YtgimcnpkngpmiaaDoor.GoP Go.Proofs.YtgimcnpkngpmiaaDoor.GoM Go.Proofs.YtgimcnpkngpmiaaDoor.GoB

def P (list : (List Go.Proofs.YtgimcnpkngpmiaaDoor.PPostmark.Postmark)) (id : Int) (place : Int) : Option ((List Go.Proofs.YtgimcnpkngpmiaaDoor.PPostmark.Postmark) × Bool) :=
  Option.bind (Go.Proofs.YtgimcnpkngpmiaaDoor.GiIndexOfPostmark.P list id) fun (t_4 : Int) =>
  letK (decide (t_4 < 0)) fun (t_7 : Bool) =>
  iteK t_7
  (some (([] : List Go.Proofs.YtgimcnpkngpmiaaDoor.PPostmark.Postmark), false))
  (Option.bind (idx list t_4) fun (yt_13 : Go.Proofs.YtgimcnpkngpmiaaDoor.PPostmark.Postmark) =>
  unPostmark yt_13 fun (t_13_id : Int) (t_13_town : ByteArray) (t_13_kind_ : Int) (t_13_first : Int) (t_13_last : Int) (t_13_lost : ByteArray) =>
  guardK (t_13_lost.size ≤ 1099511627776) <|
  letK (t_13_lost.toList.map (fun b_ => (b_.toNat : Int))) fun (t_16 : (List Int)) =>
  letK (IntKind.i64.wrap ((t_16.length : Int) - 1)) fun (t_21 : Int) =>
  Option.bind (Go.Proofs.YtgimcnpkngpmiaaDoor.GiWithin.P place 0 t_21) fun (t_22 : Bool) =>
  letK (!t_22) fun (t_23 : Bool) =>
  joinK (fun (t_30 : Bool) =>
  iteK t_30
  (some (([] : List Go.Proofs.YtgimcnpkngpmiaaDoor.PPostmark.Postmark), false))
  (Option.bind (idx t_16 place) fun (yt_36 : Int) =>
  letK (t_16.set (place).toNat 120) fun (l37_37 : (List Int)) =>
  Option.bind (Go.Proofs.YtgimcnpkngpmiaaDoor.GxSlicesCloneLoopExampleG01062ImplPostmarkLoopExampleG01062ImplPostmark.P list) fun (t_39 : (List Go.Proofs.YtgimcnpkngpmiaaDoor.PPostmark.Postmark)) =>
  letK (Go.Proofs.YtgimcnpkngpmiaaDoor.GoB.strK l37_37) fun (t_44 : ByteArray) =>
  Option.bind (idx t_39 t_4) fun (yt_45 : Go.Proofs.YtgimcnpkngpmiaaDoor.PPostmark.Postmark) =>
  unPostmark yt_45 fun (t_45_id : Int) (t_45_town : ByteArray) (t_45_kind_ : Int) (t_45_first : Int) (t_45_last : Int) (t_45_lost : ByteArray) =>
  letK (t_39.set (t_4).toNat (Go.Proofs.YtgimcnpkngpmiaaDoor.PPostmark.Postmark.mk t_45_id t_45_town t_45_kind_ t_45_first t_45_last t_44)) fun (l47_47 : (List Go.Proofs.YtgimcnpkngpmiaaDoor.PPostmark.Postmark)) =>
  Option.bind (idx l47_47 t_4) fun (yt_50 : Go.Proofs.YtgimcnpkngpmiaaDoor.PPostmark.Postmark) =>
  unPostmark yt_50 fun (t_50_id : Int) (t_50_town : ByteArray) (t_50_kind_ : Int) (t_50_first : Int) (t_50_last : Int) (t_50_lost : ByteArray) =>
  Option.bind (Go.Proofs.YtgimcnpkngpmiaaDoor.GiIsPostmark.P (Go.Proofs.YtgimcnpkngpmiaaDoor.PPostmark.Postmark.mk t_50_id t_50_town t_50_kind_ t_50_first t_50_last t_50_lost)) fun (t_52 : Bool) =>
  letK (!t_52) fun (t_53 : Bool) =>
  iteK t_53
  (some (([] : List Go.Proofs.YtgimcnpkngpmiaaDoor.PPostmark.Postmark), false))
  (some (l47_47, true)))) fun jt_30 => iteK t_23 (appK jt_30 true) (Option.bind (idx t_16 place) fun (yt_27 : Int) =>
  letK (yt_27 == 120) fun (t_29 : Bool) =>
  appK jt_30 t_29))

set_option maxRecDepth 100000 in
set_option maxHeartbeats 2000000 in
theorem C (list : (List Go.Proofs.YtgimcnpkngpmiaaDoor.PPostmark.Postmark)) (id : Int) (place : Int) (A0 : Option Addr) (c0 : Nat)  (w : World) (M0 : Hid (Cells w 6 A0 list.length (Go.Proofs.YtgimcnpkngpmiaaDoor.PPostmark.flat list))) (N0 : Hid (list.length ≤ 9223372036854775807)) (Q0 : Hid (Room A0 list.length c0))  {r0 : (List Go.Proofs.YtgimcnpkngpmiaaDoor.PPostmark.Postmark)} {r1 : Bool} (H : Hid (P list id place = some (r0, r1))) :
    Calls Tryd.prog 21 #[.slice A0 list.length c0, .int .i64 id, .int .i64 place] w (fun e w' => ∃ A_r0 c_r0, e = .returned (.tuple #[.slice A_r0 r0.length c_r0, .bool r1]) ∧ w'.ownsRow w.heap.size 39 6 (.slice A_r0 r0.length c_r0) r0.length (Go.Proofs.YtgimcnpkngpmiaaDoor.PPostmark.flat r0) ∧ Below w.heap.size w w') := by
  have HB := Lib.hid (Below.refl w.heap.size w)
  unfold P at H
  have N0o := N0.out
  go_enter Tryd.func21, Tryd.ntmps21
  replace H := bind_hid H
  obtain ⟨t_4, qt_4, H⟩ := H
  go_wp2_with fail
  go_at_call 63
  refine (Go.Proofs.YtgimcnpkngpmiaaDoor.GiIndexOfPostmark.C (list) (id) A0 c0 _   (Lib.hid (Cells.below M0.out HB.out)) N0 qt_4).mono ?_
  rintro e_t_4 wt_4 ⟨rfl, bt_4⟩
  have HBwt_4 := Lib.hid (Below.step HB.out bt_4)
  clear bt_4
  replace H := let_hid H
  obtain ⟨t_7, ht_7, H⟩ := H
  cases t_7 with
  | false =>
    replace H := ite_f H
    replace H := idx_hid H
    obtain ⟨nt_13, yt_13, et_13, lt_13, gt_13, H⟩ := H
    subst et_13
    have nc_308 : ¬ (nt_13 < 0) := by have := of_decide_eq_false ht_7; omega
    obtain ⟨t_13_id, t_13_town, t_13_kind_, t_13_first, t_13_last, t_13_lost⟩ := yt_13
    replace H := unPostmark_hid H
    obtain ⟨ab_t_13, ao_t_13, zt_13, At_13, z_t_13, ct_13_0, ct_13_1, ct_13_2, ct_13_3, ct_13_4, ct_13_5⟩ := Go.Proofs.YtgimcnpkngpmiaaDoor.OPostmark.at_ M0.out lt_13
    obtain rfl := Option.some.inj (gt_13.out.symm.trans z_t_13)
    subst At_13
    have ltt_13 := cell_lt ct_13_0
    replace ct_13_0 := cell_below HBwt_4.out ct_13_0
    replace ct_13_1 := cell_below HBwt_4.out ct_13_1
    replace ct_13_2 := cell_below HBwt_4.out ct_13_2
    replace ct_13_3 := cell_below HBwt_4.out ct_13_3
    replace ct_13_4 := cell_below HBwt_4.out ct_13_4
    replace ct_13_5 := cell_below HBwt_4.out ct_13_5
    clear z_t_13
    have b0t_13 : (0 : Int) ≤ (nt_13 : Int) := by omega
    have b1t_13 : (nt_13 : Int) < ((list.length : Nat) : Int) := by omega
    have b2t_13 : ((nt_13 : Int)).toNat = nt_13 := by omega
    replace H := guard_hid H
    obtain ⟨hnt_16, H⟩ := H
    replace H := let_hid H
    obtain ⟨t_16, ht_16, H⟩ := H
    obtain ⟨wt_16, ct_16, rt_16, ot_16, bt_16⟩ := Go.Proofs.YtgimcnpkngpmiaaDoor.GoB.conv_new (P := Tryd.prog) (w.heap.size) wt_4 9 42 5 t_13_lost Tryd.underlying9 Tryd.underlying42 Tryd.underlying5 HBwt_4.out.size (by omega) ht_16
    have Ot_16 := Lib.hid ot_16
    clear ot_16
    have hht_16 := Lib.hid ht_16
    clear ht_16
    have HBwt_16 := Lib.hid (Below.step HBwt_4.out bt_16)
    have ct_13_0__309 := cell_below bt_16 ct_13_0
    have ct_13_1__310 := cell_below bt_16 ct_13_1
    have ct_13_2__311 := cell_below bt_16 ct_13_2
    have ct_13_3__312 := cell_below bt_16 ct_13_3
    have ct_13_4__313 := cell_below bt_16 ct_13_4
    have ct_13_5__314 := cell_below bt_16 ct_13_5
    clear bt_16
    replace H := let_hid H
    obtain ⟨t_21, ht_21, H⟩ := H
    try have hv_t_21 : (t_16.length : Int) - 1 = t_21 := by rw [← ht_21]; exact (IntWalk.i64_in _ (by omega)).symm
    try have hv2_t_21 : IntKind.i64.wrap t_21 = t_21 := by rw [← hv_t_21]; exact IntWalk.i64_in _ (by omega)
    replace H := bind_hid H
    obtain ⟨t_22, qt_22, H⟩ := H
    go_wp2_with fail
    clear ct_13_0 ct_13_1 ct_13_2 ct_13_3 ct_13_4 ct_13_5 rt_16
    go_at_call 64
    refine (Go.Proofs.YtgimcnpkngpmiaaDoor.GiWithin.C (place) (0) (t_21)  _    qt_22).mono ?_
    rintro e_t_22 wt_22 ⟨rfl, bt_22⟩
    have HBwt_22 := Lib.hid (Below.step HBwt_16.out bt_22)
    replace ct_13_0__309 := cell_below bt_22 ct_13_0__309
    replace ct_13_1__310 := cell_below bt_22 ct_13_1__310
    replace ct_13_2__311 := cell_below bt_22 ct_13_2__311
    replace ct_13_3__312 := cell_below bt_22 ct_13_3__312
    replace ct_13_4__313 := cell_below bt_22 ct_13_4__313
    replace ct_13_5__314 := cell_below bt_22 ct_13_5__314
    replace Ot_16 := Lib.hid (own_below Ot_16.out bt_22)
    clear bt_22
    cases t_22 with
    | false =>
      replace H := let_hid H
      obtain ⟨t_23, ht_23, H⟩ := H
      obtain rfl : t_23 = true := ht_23.symm
      replace H := join_hid H
      replace H := ite_t H
      replace H := app_hid H
      replace H := ite_t H
      obtain ⟨w_t_31, hw_t_31⟩ : ∃ x, wt_22.alloc (.cells #[] 39) = x := ⟨_, rfl⟩
      have bw_t_31 : Below wt_22.heap.size wt_22 w_t_31 := by rw [← hw_t_31]; exact (Below.refl _ _).alloc (Nat.le_refl _) _
      have Ot_31 : Hid (w_t_31.ownsRow w.heap.size 39 6 (.slice (some ⟨wt_22.heap.size, 0, none⟩) 0 0) 0 []) := Lib.hid (by rw [← hw_t_31]; exact own_empty HBwt_22.out.size)
      have Dt_31_t_16 := Lib.hid (apart_fresh Ot_16.out)
      have HBw_t_31 := Lib.hid (Below.step HBwt_22.out bw_t_31)
      have ct_13_0__315 := cell_below bw_t_31 ct_13_0__309
      have ct_13_1__316 := cell_below bw_t_31 ct_13_1__310
      have ct_13_2__317 := cell_below bw_t_31 ct_13_2__311
      have ct_13_3__318 := cell_below bw_t_31 ct_13_3__312
      have ct_13_4__319 := cell_below bw_t_31 ct_13_4__313
      have ct_13_5__320 := cell_below bw_t_31 ct_13_5__314
      replace Ot_16 := Lib.hid (own_below Ot_16.out bw_t_31)
      clear bw_t_31
      cases ret_hid H
      go_wp2_with fail
      go_ret2
      exact ⟨(some ⟨wt_22.heap.size, 0, none⟩), 0, rfl, Ot_31.out, HBw_t_31.out⟩
    | true =>
      replace H := let_hid H
      obtain ⟨t_23, ht_23, H⟩ := H
      obtain rfl : t_23 = false := ht_23.symm
      replace H := join_hid H
      replace H := ite_f H
      replace H := idx_hid H
      obtain ⟨nt_27, yt_27, et_27, lt_27, gt_27, H⟩ := H
      subst et_27
      obtain ⟨ab_t_27, ao_t_27, zt_27, At_27, z_t_27, ct_27_0⟩ := Go.Proofs.YtgimcnpkngpmiaaDoor.GoB.u8_at (own_cells Ot_16.out) (k := nt_27) (by omega)
      obtain rfl := Option.some.inj (gt_27.out.symm.trans z_t_27)
      simp only [Option.some.injEq, Addr.mk.injEq] at At_27
      obtain ⟨rfl, rfl, _⟩ := At_27
      clear z_t_27
      simp only [Nat.zero_add] at ct_27_0
      have b0t_27 : (0 : Int) ≤ (nt_27 : Int) := by omega
      have b1t_27 : (nt_27 : Int) < ((t_16.length : Nat) : Int) := by omega
      have b2t_27 : ((nt_27 : Int)).toNat = nt_27 := by omega
      replace H := let_hid H
      obtain ⟨t_29, ht_29, H⟩ := H
      replace H := app_hid H
      cases t_29 with
      | false =>
        replace H := ite_f H
        replace H := idx_hid H
        obtain ⟨nt_36, yt_36, et_36, lt_36, gt_36, H⟩ := H
        obtain rfl : nt_27 = nt_36 := by omega
        clear et_36
        obtain rfl := Option.some.inj (gt_27.out.symm.trans gt_36.out)
        clear gt_36 lt_36
        replace H := let_hid H
        obtain ⟨l37_37, hl37_37, H⟩ := H
        try simp only [Int.toNat_natCast] at hl37_37
        obtain ⟨wl37_37, hwl37_37⟩ : ∃ x, (wt_22).setCell ⟨wt_4.heap.size, nt_27, none⟩ (.int .u8 120) = x := ⟨_, rfl⟩
        have z0l37_37 := Ot_16.out.frozenAt (nt_27) (by have hz_ := lt_27; omega)
        have Sl37_37 := Lib.hid (own_stores [(nt_27, .int .u8 120)] Ot_16.out)
        have nl37_37 : Hid (l37_37.length = t_16.length) := Lib.hid (by rw [← hl37_37, List.length_set])
        have Pl37_37 : Hid (Go.Proofs.YtgimcnpkngpmiaaDoor.GoB.ownsB wl37_37 w.heap.size 5 1 (.slice (some ⟨wt_4.heap.size, 0, none⟩) t_16.length ct_16) t_16.length (Go.Proofs.YtgimcnpkngpmiaaDoor.GoB.u8s l37_37)) := Lib.hid (by have e_ : ([(nt_27, .int .u8 120)] : List (Nat × Value)).foldl (fun xs p => xs.set p.1 p.2) (Go.Proofs.YtgimcnpkngpmiaaDoor.GoB.u8s t_16) = (Go.Proofs.YtgimcnpkngpmiaaDoor.GoB.u8s l37_37) := (by rw [← hl37_37]; first | done | simp [Go.Proofs.YtgimcnpkngpmiaaDoor.GoB.u8s, List.map_set]); rw [← hwl37_37, ← e_]; exact Sl37_37.out.1)
        have Gl37_37 : Hid (wt_22.grownBy wl37_37 (Value.slice (some ⟨wt_4.heap.size, 0, none⟩) t_16.length ct_16).ownBlock) := Lib.hid (by rw [← hwl37_37]; exact Sl37_37.out.2)
        have HBwl37_37 := Lib.hid (HBwt_22.out.grown Gl37_37.out HBwt_22.out.size (fun q hq => (Ot_16.out.lt q hq).1))
        have hhl37_37 := Lib.hid hl37_37
        clear hl37_37 Sl37_37
        have ct_13_0__321 := cell_other ct_13_0__309 Gl37_37.out (apart_old Ot_16.out ltt_13)
        have ct_13_1__322 := cell_other ct_13_1__310 Gl37_37.out (apart_old Ot_16.out ltt_13)
        have ct_13_2__323 := cell_other ct_13_2__311 Gl37_37.out (apart_old Ot_16.out ltt_13)
        have ct_13_3__324 := cell_other ct_13_3__312 Gl37_37.out (apart_old Ot_16.out ltt_13)
        have ct_13_4__325 := cell_other ct_13_4__313 Gl37_37.out (apart_old Ot_16.out ltt_13)
        have ct_13_5__326 := cell_other ct_13_5__314 Gl37_37.out (apart_old Ot_16.out ltt_13)
        clear Ot_16 Gl37_37
        replace H := bind_hid H
        obtain ⟨t_39, qt_39, H⟩ := H
        go_wp2_with fail
        clear z0l37_37 ct_13_0__309 ct_13_1__310 ct_13_2__311 ct_13_3__312 ct_13_4__313 ct_13_5__314 ct_27_0
        go_at_call 65
        refine (Go.Proofs.YtgimcnpkngpmiaaDoor.GxSlicesCloneLoopExampleG01062ImplPostmarkLoopExampleG01062ImplPostmark.C (list) (some ⟨ab_t_13, ao_t_13, none⟩) c0 _   (Lib.hid (Cells.below M0.out HBwl37_37.out)) N0 Q0 qt_39).mono ?_
        rintro e_t_39 wt_39 ⟨At_39, ct_39, rfl, ot_39, bt_39⟩
        have Dt_39_t_16 := Lib.hid (apart_call ot_39 Pl37_37.out)
        have Ot_39 := Lib.hid (own_lower ot_39 HBwl37_37.out.size)
        clear ot_39
        have HBwt_39 := Lib.hid (Below.step HBwl37_37.out bt_39)
        replace ct_13_0__321 := cell_below bt_39 ct_13_0__321
        replace ct_13_1__322 := cell_below bt_39 ct_13_1__322
        replace ct_13_2__323 := cell_below bt_39 ct_13_2__323
        replace ct_13_3__324 := cell_below bt_39 ct_13_3__324
        replace ct_13_4__325 := cell_below bt_39 ct_13_4__325
        replace ct_13_5__326 := cell_below bt_39 ct_13_5__326
        replace Pl37_37 := Lib.hid (own_below Pl37_37.out bt_39)
        clear bt_39
        replace H := let_hid H
        obtain ⟨t_44, ht_44, H⟩ := H
        have rt_44 := Go.Proofs.YtgimcnpkngpmiaaDoor.GoB.conv_back (P := Tryd.prog) Tryd.underlying42 Tryd.underlying5 Tryd.underlying9 Pl37_37.out ht_44
        have hht_44 := Lib.hid ht_44
        clear ht_44
        replace H := idx_hid H
        obtain ⟨nt_45, yt_45, et_45, lt_45, gt_45, H⟩ := H
        obtain rfl : nt_13 = nt_45 := by omega
        clear et_45
        obtain ⟨t_45_id, t_45_town, t_45_kind_, t_45_first, t_45_last, t_45_lost⟩ := yt_45
        replace H := unPostmark_hid H
        obtain ⟨qt_45, Qt_45⟩ := own_some Ot_39.out (by omega)
        subst Qt_45
        obtain ⟨ab_t_45, ao_t_45, zt_45, At_45, z_t_45, ct_45_0, ct_45_1, ct_45_2, ct_45_3, ct_45_4, ct_45_5⟩ := Go.Proofs.YtgimcnpkngpmiaaDoor.OPostmark.at_ (own_cells Ot_39.out) (k := nt_13) (by omega)
        obtain rfl := Option.some.inj (gt_45.out.symm.trans z_t_45)
        simp only [Option.some.injEq, Addr.mk.injEq] at At_45
        obtain ⟨rfl, rfl, _⟩ := At_45
        clear z_t_45
        simp only [Nat.zero_add] at ct_45_0 ct_45_1 ct_45_2 ct_45_3 ct_45_4 ct_45_5
        have b0t_45 : (0 : Int) ≤ (nt_13 : Int) := by omega
        have b1t_45 : (nt_13 : Int) < ((t_39.length : Nat) : Int) := by omega
        have b2t_45 : ((nt_13 : Int)).toNat = nt_13 := by omega
        replace H := let_hid H
        obtain ⟨l47_47, hl47_47, H⟩ := H
        try simp only [Int.toNat_natCast] at hl47_47
        obtain ⟨wl47_47, hwl47_47⟩ : ∃ x, (wt_39).setCell ⟨qt_45, nt_13 * 6 + 5, none⟩ (.string t_44) = x := ⟨_, rfl⟩
        have z0l47_47 := Ot_39.out.frozenAt (nt_13 * 6 + 5)
        have Sl47_47 := Lib.hid (own_stores [(nt_13 * 6 + 5, .string t_44)] Ot_39.out)
        have nl47_47 : Hid (l47_47.length = t_39.length) := Lib.hid (by rw [← hl47_47, List.length_set])
        have Pl47_47 : Hid (wl47_47.ownsRow w.heap.size 39 6 (.slice (some ⟨qt_45, 0, none⟩) t_39.length ct_39) t_39.length (Go.Proofs.YtgimcnpkngpmiaaDoor.PPostmark.flat l47_47)) := Lib.hid (by have es_ := set_self gt_45.out; have e0_ := flat_set Go.Proofs.YtgimcnpkngpmiaaDoor.PPostmark.Postmark.cells 6 (fun _ => rfl) t_39 (nt_13) 5 (Go.Proofs.YtgimcnpkngpmiaaDoor.PPostmark.Postmark.mk t_45_id t_45_town t_45_kind_ t_45_first t_45_last t_45_lost) (Go.Proofs.YtgimcnpkngpmiaaDoor.PPostmark.Postmark.mk t_45_id t_45_town t_45_kind_ t_45_first t_45_last t_44) (.string t_44) lt_45 (by decide) rfl; rw [es_] at e0_; have e_ : ([(nt_13 * 6 + 5, .string t_44)] : List (Nat × Value)).foldl (fun xs p => xs.set p.1 p.2) (Go.Proofs.YtgimcnpkngpmiaaDoor.PPostmark.flat t_39) = (Go.Proofs.YtgimcnpkngpmiaaDoor.PPostmark.flat l47_47) := (by rw [← hl47_47]; show _ = List.flatMap Go.Proofs.YtgimcnpkngpmiaaDoor.PPostmark.Postmark.cells _; first | (rw [← e0_]; first | done | rfl)); rw [← hwl47_47, ← e_]; exact Sl47_47.out.1)
        have Gl47_47 : Hid (wt_39.grownBy wl47_47 (Value.slice (some ⟨qt_45, 0, none⟩) t_39.length ct_39).ownBlock) := Lib.hid (by rw [← hwl47_47]; exact Sl47_47.out.2)
        have HBwl47_47 := Lib.hid (HBwt_39.out.grown Gl47_47.out HBwt_39.out.size (fun q hq => (Ot_39.out.lt q hq).1))
        have hhl47_47 := Lib.hid hl47_47
        clear hl47_47 Sl47_47
        have ct_13_0__327 := cell_other ct_13_0__321 Gl47_47.out (apart_old Ot_39.out ltt_13)
        have ct_13_1__328 := cell_other ct_13_1__322 Gl47_47.out (apart_old Ot_39.out ltt_13)
        have ct_13_2__329 := cell_other ct_13_2__323 Gl47_47.out (apart_old Ot_39.out ltt_13)
        have ct_13_3__330 := cell_other ct_13_3__324 Gl47_47.out (apart_old Ot_39.out ltt_13)
        have ct_13_4__331 := cell_other ct_13_4__325 Gl47_47.out (apart_old Ot_39.out ltt_13)
        have ct_13_5__332 := cell_other ct_13_5__326 Gl47_47.out (apart_old Ot_39.out ltt_13)
        replace Pl37_37 := Lib.hid (own_other Pl37_37.out Gl47_47.out Dt_39_t_16.out)
        clear Ot_39 Gl47_47
        replace H := idx_hid H
        obtain ⟨nt_50, yt_50, et_50, lt_50, gt_50, H⟩ := H
        obtain rfl : nt_13 = nt_50 := by omega
        clear et_50
        obtain ⟨t_50_id, t_50_town, t_50_kind_, t_50_first, t_50_last, t_50_lost⟩ := yt_50
        replace H := unPostmark_hid H
        have hqt_50 := nl47_47.out
        obtain ⟨ab_t_50, ao_t_50, zt_50, At_50, z_t_50, ct_50_0, ct_50_1, ct_50_2, ct_50_3, ct_50_4, ct_50_5⟩ := Go.Proofs.YtgimcnpkngpmiaaDoor.OPostmark.at_ (own_cells Pl47_47.out) (k := nt_13) (by omega)
        obtain rfl := Option.some.inj (gt_50.out.symm.trans z_t_50)
        simp only [Option.some.injEq, Addr.mk.injEq] at At_50
        obtain ⟨rfl, rfl, _⟩ := At_50
        clear z_t_50
        simp only [Nat.zero_add] at ct_50_0 ct_50_1 ct_50_2 ct_50_3 ct_50_4 ct_50_5
        have b0t_50 : (0 : Int) ≤ (nt_13 : Int) := by omega
        have b1t_50 : (nt_13 : Int) < ((t_39.length : Nat) : Int) := by omega
        have b2t_50 : ((nt_13 : Int)).toNat = nt_13 := by omega
        clear hqt_50
        replace H := bind_hid H
        obtain ⟨t_52, qt_52, H⟩ := H
        go_wp2_with fail
        clear rt_44 z0l47_47 ct_13_0__321 ct_13_1__322 ct_13_2__323 ct_13_3__324 ct_13_4__325 ct_13_5__326 ct_45_0 ct_45_1 ct_45_2 ct_45_3 ct_45_4 ct_45_5
        go_at_call 36
        refine (Go.Proofs.YtgimcnpkngpmiaaDoor.GiIsPostmark.C ((Go.Proofs.YtgimcnpkngpmiaaDoor.PPostmark.Postmark.mk t_50_id t_50_town t_50_kind_ t_50_first t_50_last t_50_lost))  _    qt_52).mono ?_
        rintro e_t_52 wt_52 ⟨rfl, bt_52⟩
        have HBwt_52 := Lib.hid (Below.step HBwl47_47.out bt_52)
        replace ct_13_0__327 := cell_below bt_52 ct_13_0__327
        replace ct_13_1__328 := cell_below bt_52 ct_13_1__328
        replace ct_13_2__329 := cell_below bt_52 ct_13_2__329
        replace ct_13_3__330 := cell_below bt_52 ct_13_3__330
        replace ct_13_4__331 := cell_below bt_52 ct_13_4__331
        replace ct_13_5__332 := cell_below bt_52 ct_13_5__332
        replace ct_50_0 := cell_below bt_52 ct_50_0
        replace ct_50_1 := cell_below bt_52 ct_50_1
        replace ct_50_2 := cell_below bt_52 ct_50_2
        replace ct_50_3 := cell_below bt_52 ct_50_3
        replace ct_50_4 := cell_below bt_52 ct_50_4
        replace ct_50_5 := cell_below bt_52 ct_50_5
        replace Pl37_37 := Lib.hid (own_below Pl37_37.out bt_52)
        replace Pl47_47 := Lib.hid (own_below Pl47_47.out bt_52)
        clear bt_52
        cases t_52 with
        | false =>
          replace H := let_hid H
          obtain ⟨t_53, ht_53, H⟩ := H
          obtain rfl : t_53 = true := ht_53.symm
          replace H := ite_t H
          obtain ⟨w_t_54, hw_t_54⟩ : ∃ x, wt_52.alloc (.cells #[] 39) = x := ⟨_, rfl⟩
          have bw_t_54 : Below wt_52.heap.size wt_52 w_t_54 := by rw [← hw_t_54]; exact (Below.refl _ _).alloc (Nat.le_refl _) _
          have Ot_54 : Hid (w_t_54.ownsRow w.heap.size 39 6 (.slice (some ⟨wt_52.heap.size, 0, none⟩) 0 0) 0 []) := Lib.hid (by rw [← hw_t_54]; exact own_empty HBwt_52.out.size)
          have Dt_54_t_16 := Lib.hid (apart_fresh Pl37_37.out)
          have Dt_54_t_39 := Lib.hid (apart_fresh Pl47_47.out)
          have HBw_t_54 := Lib.hid (Below.step HBwt_52.out bw_t_54)
          have ct_13_0__333 := cell_below bw_t_54 ct_13_0__327
          have ct_13_1__334 := cell_below bw_t_54 ct_13_1__328
          have ct_13_2__335 := cell_below bw_t_54 ct_13_2__329
          have ct_13_3__336 := cell_below bw_t_54 ct_13_3__330
          have ct_13_4__337 := cell_below bw_t_54 ct_13_4__331
          have ct_13_5__338 := cell_below bw_t_54 ct_13_5__332
          have ct_50_0__339 := cell_below bw_t_54 ct_50_0
          have ct_50_1__340 := cell_below bw_t_54 ct_50_1
          have ct_50_2__341 := cell_below bw_t_54 ct_50_2
          have ct_50_3__342 := cell_below bw_t_54 ct_50_3
          have ct_50_4__343 := cell_below bw_t_54 ct_50_4
          have ct_50_5__344 := cell_below bw_t_54 ct_50_5
          replace Pl37_37 := Lib.hid (own_below Pl37_37.out bw_t_54)
          replace Pl47_47 := Lib.hid (own_below Pl47_47.out bw_t_54)
          clear bw_t_54
          cases ret_hid H
          go_wp2_with fail
          go_ret2
          exact ⟨(some ⟨wt_52.heap.size, 0, none⟩), 0, rfl, Ot_54.out, HBw_t_54.out⟩
        | true =>
          replace H := let_hid H
          obtain ⟨t_53, ht_53, H⟩ := H
          obtain rfl : t_53 = false := ht_53.symm
          replace H := ite_f H
          cases ret_hid H
          go_wp2_with fail
          go_ret2
          have hr_0 := nl47_47.out
          replace Pl47_47 := Lib.hid (own_len hr_0 Pl47_47.out)
          exact ⟨(some ⟨qt_45, 0, none⟩), ct_39, (by first | (rw [hr_0]; done) | (rw [hr_0]; rfl)), Pl47_47.out, HBwt_52.out⟩
      | true =>
        replace H := ite_t H
        obtain ⟨w_t_31, hw_t_31⟩ : ∃ x, wt_22.alloc (.cells #[] 39) = x := ⟨_, rfl⟩
        have bw_t_31 : Below wt_22.heap.size wt_22 w_t_31 := by rw [← hw_t_31]; exact (Below.refl _ _).alloc (Nat.le_refl _) _
        have Ot_31 : Hid (w_t_31.ownsRow w.heap.size 39 6 (.slice (some ⟨wt_22.heap.size, 0, none⟩) 0 0) 0 []) := Lib.hid (by rw [← hw_t_31]; exact own_empty HBwt_22.out.size)
        have Dt_31_t_16 := Lib.hid (apart_fresh Ot_16.out)
        have HBw_t_31 := Lib.hid (Below.step HBwt_22.out bw_t_31)
        have ct_13_0__345 := cell_below bw_t_31 ct_13_0__309
        have ct_13_1__346 := cell_below bw_t_31 ct_13_1__310
        have ct_13_2__347 := cell_below bw_t_31 ct_13_2__311
        have ct_13_3__348 := cell_below bw_t_31 ct_13_3__312
        have ct_13_4__349 := cell_below bw_t_31 ct_13_4__313
        have ct_13_5__350 := cell_below bw_t_31 ct_13_5__314
        have ct_27_0__351 := cell_below bw_t_31 ct_27_0
        replace Ot_16 := Lib.hid (own_below Ot_16.out bw_t_31)
        clear bw_t_31
        cases ret_hid H
        go_wp2_with fail
        go_ret2
        exact ⟨(some ⟨wt_22.heap.size, 0, none⟩), 0, rfl, Ot_31.out, HBw_t_31.out⟩
  | true =>
    replace H := ite_t H
    obtain ⟨w_t_8, hw_t_8⟩ : ∃ x, wt_4.alloc (.cells #[] 39) = x := ⟨_, rfl⟩
    have bw_t_8 : Below wt_4.heap.size wt_4 w_t_8 := by rw [← hw_t_8]; exact (Below.refl _ _).alloc (Nat.le_refl _) _
    have Ot_8 : Hid (w_t_8.ownsRow w.heap.size 39 6 (.slice (some ⟨wt_4.heap.size, 0, none⟩) 0 0) 0 []) := Lib.hid (by rw [← hw_t_8]; exact own_empty HBwt_4.out.size)
    have HBw_t_8 := Lib.hid (Below.step HBwt_4.out bw_t_8)
    clear bw_t_8
    cases ret_hid H
    go_wp2_with fail
    go_ret2
    exact ⟨(some ⟨wt_4.heap.size, 0, none⟩), 0, rfl, Ot_8.out, HBw_t_8.out⟩
end Go.Proofs.YtgimcnpkngpmiaaDoor.GiLoseLetter

/- loop.example/g01062/spec.l11Find as a plain function, and the contract of the program's: where the plain one has an answer, the program has it. Conditions: slices read as lists. -/
namespace Go.Proofs.YtgimcnpkngpmiaaDoor.GsL11Find
set_option linter.unusedVariables false
set_option linter.unusedSimpArgs false
open Go.RowKit
open Go.Proofs.YtgimcnpkngpmiaaDoor.Rowed Go.Proofs.YtgimcnpkngpmiaaDoor.Turn Go.Proofs.YtgimcnpkngpmiaaDoor.Aid Go.Proofs.YtgimcnpkngpmiaaDoor.GoP Go.Proofs.YtgimcnpkngpmiaaDoor.GoM

def l0 (list : (List Go.Proofs.YtgimcnpkngpmiaaDoor.PPostmark.Postmark)) (id : Int) (k0 : Nat) (s : Unit) (nx0 bk0 : Unit → Option (Int)) : Option (Int) :=
  
  Option.bind (idx list (k0 : Int)) fun (yt_8 : Go.Proofs.YtgimcnpkngpmiaaDoor.PPostmark.Postmark) =>
  unPostmark yt_8 fun (t_8_id : Int) (t_8_town : ByteArray) (t_8_kind_ : Int) (t_8_first : Int) (t_8_last : Int) (t_8_lost : ByteArray) =>
  letK (t_8_id == id) fun (t_12 : Bool) =>
  iteK t_12
  (some (k0 : Int))
  (appK nx0 ())

def e0  (s : Unit) : Option (Int) :=
  
  some (-1)

def P (list : (List Go.Proofs.YtgimcnpkngpmiaaDoor.PPostmark.Postmark)) (id : Int) : Option (Int) :=
  cntK (l0 list id) (list.length) 0 () (e0 )

set_option maxRecDepth 100000 in
set_option maxHeartbeats 2000000 in
theorem C (list : (List Go.Proofs.YtgimcnpkngpmiaaDoor.PPostmark.Postmark)) (id : Int) (A0 : Option Addr) (c0 : Nat)  (w : World) (M0 : Hid (Cells w 6 A0 list.length (Go.Proofs.YtgimcnpkngpmiaaDoor.PPostmark.flat list))) (N0 : Hid (list.length ≤ 9223372036854775807))  {r : Int} (H : Hid (P list id = some r)) :
    Calls Tryd.prog 66 #[.slice A0 list.length c0, .int .i64 id] w (Gives (.int .i64 r) w) := by
  have HB := Lib.hid (Below.refl w.heap.size w)
  unfold P at H
  have N0o := N0.out
  go_enter Tryd.func66, Tryd.ntmps66
  go_wp2_with fail
  go_loopg [5] (list.length) (fun m_ v5_ wr => ∃ (k0 : Nat) , k0 + m_ = list.length ∧ v5_ = .int .i64 (k0 : Int) ∧ Hid (cntK (l0 list id) m_ k0 () (e0 ) = some r) ∧ Hid (Below w.heap.size w wr))
  case atStart => exact ⟨0, by omega, rfl, H, HB⟩
  case round =>
    obtain ⟨k0, hkm0, rfl, H, HBwr0⟩ := hrel
    rename World => wr0
    cases gk with
    | zero =>
      obtain rfl : k0 = list.length := by omega
      have hc0 : decide (((list.length : Nat) : Int) < ((list.length : Nat) : Int)) = false := by simp
      replace H := cnt_zero H
      unfold e0 at H
      obtain rfl := ret_hid H
      go_wp2_with fail
      go_ret
      exact ⟨rfl, HBwr0.out⟩
    | succ m0 =>
      have hlt0 : k0 < list.length := by omega
      have hc0 : decide ((k0 : Int) < ((list.length : Nat) : Int)) = true := by simp; omega
      replace H := cnt_succ H
      unfold l0 at H
      replace H := idx_hid H
      obtain ⟨nt_8, yt_8, et_8, lt_8, gt_8, H⟩ := H
      obtain rfl : k0 = nt_8 := by omega
      clear et_8
      obtain ⟨t_8_id, t_8_town, t_8_kind_, t_8_first, t_8_last, t_8_lost⟩ := yt_8
      replace H := unPostmark_hid H
      obtain ⟨ab_t_8, ao_t_8, zt_8, At_8, z_t_8, ct_8_0, ct_8_1, ct_8_2, ct_8_3, ct_8_4, ct_8_5⟩ := Go.Proofs.YtgimcnpkngpmiaaDoor.OPostmark.at_ M0.out lt_8
      obtain rfl := Option.some.inj (gt_8.out.symm.trans z_t_8)
      subst At_8
      have ltt_8 := cell_lt ct_8_0
      replace ct_8_0 := cell_below HBwr0.out ct_8_0
      replace ct_8_1 := cell_below HBwr0.out ct_8_1
      replace ct_8_2 := cell_below HBwr0.out ct_8_2
      replace ct_8_3 := cell_below HBwr0.out ct_8_3
      replace ct_8_4 := cell_below HBwr0.out ct_8_4
      replace ct_8_5 := cell_below HBwr0.out ct_8_5
      clear z_t_8
      have b0t_8 : (0 : Int) ≤ (k0 : Int) := by omega
      have b1t_8 : (k0 : Int) < ((list.length : Nat) : Int) := by omega
      have b2t_8 : ((k0 : Int)).toNat = k0 := by omega
      replace H := let_hid H
      obtain ⟨t_12, ht_12, H⟩ := H
      cases t_12 with
      | false =>
        replace H := ite_f H
        replace H := app_hid H
        go_wp2_with fail
        go_roundg m0
        case measure => omega
        case rel => exact ⟨k0 + 1, by omega, by go_num, H, HBwr0⟩
      | true =>
        replace H := ite_t H
        obtain rfl := ret_hid H
        go_wp2_with fail
        go_ret
        exact ⟨rfl, HBwr0.out⟩
end Go.Proofs.YtgimcnpkngpmiaaDoor.GsL11Find

/- loop.example/g01062/spec.l1In as a plain function, and the contract of the program's: where the plain one has an answer, the program has it. Conditions: slices read as lists. -/
namespace Go.Proofs.YtgimcnpkngpmiaaDoor.GsL1In
set_option linter.unusedVariables false
set_option linter.unusedSimpArgs false
open Go.RowKit
open Go.Proofs.YtgimcnpkngpmiaaDoor.Rowed Go.Proofs.YtgimcnpkngpmiaaDoor.Turn Go.Proofs.YtgimcnpkngpmiaaDoor.Aid Go.Proofs.YtgimcnpkngpmiaaDoor.GoP Go.Proofs.YtgimcnpkngpmiaaDoor.GoM

def P (x : Int) (a : Int) (b : Int) : Option (Bool) :=
  letK (decide (a ≤ x)) fun (t_3 : Bool) =>
  joinK (fun (t_8 : Bool) =>
  some t_8) fun jt_8 => iteK t_3 (letK (decide (x ≤ b)) fun (t_7 : Bool) =>
  appK jt_8 t_7) (appK jt_8 false)

set_option maxRecDepth 100000 in
set_option maxHeartbeats 2000000 in
theorem C (x : Int) (a : Int) (b : Int)   (w : World)   {r : Bool} (H : Hid (P x a b = some r)) :
    Calls Tryd.prog 67 #[.int .i64 x, .int .i64 a, .int .i64 b] w (Gives (.bool r) w) := by
  have HB := Lib.hid (Below.refl w.heap.size w)
  unfold P at H
  go_enter Tryd.func67, Tryd.ntmps67
  replace H := let_hid H
  obtain ⟨t_3, ht_3, H⟩ := H
  replace H := join_hid H
  cases t_3 with
  | false =>
    replace H := ite_f H
    replace H := app_hid H
    obtain rfl := ret_hid H
    go_wp2_with fail
    go_ret
    exact ⟨rfl, HB.out⟩
  | true =>
    replace H := ite_t H
    replace H := let_hid H
    obtain ⟨t_7, ht_7, H⟩ := H
    replace H := app_hid H
    obtain rfl := ret_hid H
    go_wp2_with fail
    go_ret
    exact ⟨rfl, HB.out⟩

set_option maxRecDepth 100000 in
set_option maxHeartbeats 2000000 in
theorem C0 (x : Int) (a : Int) (b : Int)   (w : World)   {r : Bool} (H : Hid (P x a b = some r)) :
    Calls Tryd.prog 67 #[.int .i64 x, .int .i64 a, .int .i64 b] w (fun e w'' => e = .returned (.bool r) ∧ w'' = w) := by
  have HB := Lib.hid (Below.refl w.heap.size w)
  unfold P at H
  go_enter Tryd.func67, Tryd.ntmps67
  replace H := let_hid H
  obtain ⟨t_3, ht_3, H⟩ := H
  replace H := join_hid H
  cases t_3 with
  | false =>
    replace H := ite_f H
    replace H := app_hid H
    obtain rfl := ret_hid H
    go_wp2_with fail
    go_ret
    exact ⟨rfl, rfl⟩
  | true =>
    replace H := ite_t H
    replace H := let_hid H
    obtain ⟨t_7, ht_7, H⟩ := H
    replace H := app_hid H
    obtain rfl := ret_hid H
    go_wp2_with fail
    go_ret
    exact ⟨rfl, rfl⟩
end Go.Proofs.YtgimcnpkngpmiaaDoor.GsL1In

/- loop.example/g01062/spec.l2Word as a plain function, and the contract of the program's: where the plain one has an answer, the program has it. Conditions: slices read as lists. -/
namespace Go.Proofs.YtgimcnpkngpmiaaDoor.GsL2Word
set_option linter.unusedVariables false
set_option linter.unusedSimpArgs false
open Go.RowKit
open Go.Proofs.YtgimcnpkngpmiaaDoor.Rowed Go.Proofs.YtgimcnpkngpmiaaDoor.Turn Go.Proofs.YtgimcnpkngpmiaaDoor.Aid Go.Proofs.YtgimcnpkngpmiaaDoor.GoP Go.Proofs.YtgimcnpkngpmiaaDoor.GoM

def l0 (s_0 : ByteArray) (k0 : Nat) (s : Unit) (nx0 bk0 : Unit → Option (Bool)) : Option (Bool) :=
  
  Option.bind (idx s_0.toList (k0 : Int)) fun (yt_8 : UInt8) =>
  letK ((yt_8.toNat : Int)) fun (t_8 : Int) =>
  letK (decide (t_8 < 97)) fun (t_9 : Bool) =>
  joinK (fun (t_15 : Bool) =>
  iteK t_15
  (some false)
  (appK nx0 ())) fun jt_15 => iteK t_9 (appK jt_15 true) (Option.bind (idx s_0.toList (k0 : Int)) fun (yt_13 : UInt8) =>
  letK ((yt_13.toNat : Int)) fun (t_13 : Int) =>
  letK (decide (122 < t_13)) fun (t_14 : Bool) =>
  appK jt_15 t_14)

def e0 (s_0 : ByteArray) (s : Unit) : Option (Bool) :=
  
  Option.bind (Go.Proofs.YtgimcnpkngpmiaaDoor.GsL1In.P (s_0.size : Int) 1 10) fun (t_22 : Bool) =>
  some t_22

def P (s_0 : ByteArray) : Option (Bool) :=
  guardK (s_0.size ≤ 9223372036854775807) <|
  cntK (l0 s_0) (s_0.size) 0 () (e0 s_0)

set_option maxRecDepth 100000 in
set_option maxHeartbeats 2000000 in
theorem C (s_0 : ByteArray)   (w : World)   {r : Bool} (H : Hid (P s_0 = some r)) :
    Calls Tryd.prog 75 #[.string s_0] w (Gives (.bool r) w) := by
  have HB := Lib.hid (Below.refl w.heap.size w)
  unfold P at H
  go_enter Tryd.func75, Tryd.ntmps75
  replace H := guard_hid H
  obtain ⟨hg0, H⟩ := H
  go_wp2_with fail
  go_loopg [3] (s_0.size) (fun m_ v3_ wr => ∃ (k0 : Nat) , k0 + m_ = s_0.size ∧ v3_ = .int .i64 (k0 : Int) ∧ Hid (cntK (l0 s_0) m_ k0 () (e0 s_0) = some r) ∧ Hid (Below w.heap.size w wr))
  case atStart => exact ⟨0, by omega, rfl, H, HB⟩
  case round =>
    obtain ⟨k0, hkm0, rfl, H, HBwr0⟩ := hrel
    rename World => wr0
    cases gk with
    | zero =>
      obtain rfl : k0 = s_0.size := by omega
      have hc0 : decide (((s_0.size : Nat) : Int) < ((s_0.size : Nat) : Int)) = false := by simp
      replace H := cnt_zero H
      unfold e0 at H
      replace H := bind_hid H
      obtain ⟨t_22, qt_22, H⟩ := H
      go_wp2_with fail
      go_at_call 67
      refine (Go.Proofs.YtgimcnpkngpmiaaDoor.GsL1In.C ((s_0.size : Int)) (1) (10)  _    qt_22).mono ?_
      rintro e_t_22 wt_22 ⟨rfl, bt_22⟩
      have HBwt_22 := Lib.hid (Below.step HBwr0.out bt_22)
      clear bt_22
      obtain rfl := ret_hid H
      go_wp2_with fail
      go_ret
      exact ⟨rfl, HBwt_22.out⟩
    | succ m0 =>
      have hlt0 : k0 < s_0.size := by omega
      have hc0 : decide ((k0 : Int) < ((s_0.size : Nat) : Int)) = true := by simp; omega
      replace H := cnt_succ H
      unfold l0 at H
      replace H := idx_hid H
      obtain ⟨nt_8, yt_8, et_8, lt_8, gt_8, H⟩ := H
      obtain rfl : k0 = nt_8 := by omega
      clear et_8
      have rt_8 := byte_rule lt_8 gt_8.out
      have b0t_8 : (0 : Int) ≤ (k0 : Int) := by omega
      have b1t_8 : (k0 : Int) < (s_0.size : Int) := by have := size_list s_0; omega
      have b2t_8 : ((k0 : Int)).toNat = k0 := by omega
      have b3t_8 : k0 < s_0.size := by have := size_list s_0; omega
      replace H := let_hid H
      obtain ⟨t_8, ht_8, H⟩ := H
      replace H := let_hid H
      obtain ⟨t_9, ht_9, H⟩ := H
      replace H := join_hid H
      cases t_9 with
      | false =>
        replace H := ite_f H
        replace H := idx_hid H
        obtain ⟨nt_13, yt_13, et_13, lt_13, gt_13, H⟩ := H
        obtain rfl : k0 = nt_13 := by omega
        clear et_13
        obtain rfl := Option.some.inj (gt_8.out.symm.trans gt_13.out)
        clear gt_13 lt_13
        replace H := let_hid H
        obtain ⟨t_13, ht_13, H⟩ := H
        obtain rfl := ht_8.symm.trans ht_13
        replace H := let_hid H
        obtain ⟨t_14, ht_14, H⟩ := H
        replace H := app_hid H
        cases t_14 with
        | false =>
          replace H := ite_f H
          replace H := app_hid H
          go_wp2_with fail
          go_roundg m0
          case measure => omega
          case rel => exact ⟨k0 + 1, by omega, by go_num, H, HBwr0⟩
        | true =>
          replace H := ite_t H
          obtain rfl := ret_hid H
          go_wp2_with fail
          go_ret
          exact ⟨rfl, HBwr0.out⟩
      | true =>
        replace H := ite_t H
        replace H := app_hid H
        replace H := ite_t H
        obtain rfl := ret_hid H
        go_wp2_with fail
        go_ret
        exact ⟨rfl, HBwr0.out⟩
end Go.Proofs.YtgimcnpkngpmiaaDoor.GsL2Word

/- loop.example/g01062/spec.l2Day as a plain function, and the contract of the program's: where the plain one has an answer, the program has it. Conditions: slices read as lists. -/
namespace Go.Proofs.YtgimcnpkngpmiaaDoor.GsL2Day
set_option linter.unusedVariables false
set_option linter.unusedSimpArgs false
open Go.RowKit
open Go.Proofs.YtgimcnpkngpmiaaDoor.Rowed Go.Proofs.YtgimcnpkngpmiaaDoor.Turn Go.Proofs.YtgimcnpkngpmiaaDoor.Aid Go.Proofs.YtgimcnpkngpmiaaDoor.GoP Go.Proofs.YtgimcnpkngpmiaaDoor.GoM

def P (d_0 : Int) : Option (Bool) :=
  Option.bind (Go.Proofs.YtgimcnpkngpmiaaDoor.GsL1In.P d_0 0 4000) fun (t_2 : Bool) =>
  some t_2

set_option maxRecDepth 100000 in
set_option maxHeartbeats 2000000 in
theorem C (d_0 : Int)   (w : World)   {r : Bool} (H : Hid (P d_0 = some r)) :
    Calls Tryd.prog 42 #[.int .i64 d_0] w (Gives (.bool r) w) := by
  have HB := Lib.hid (Below.refl w.heap.size w)
  unfold P at H
  go_enter Tryd.func42, Tryd.ntmps42
  replace H := bind_hid H
  obtain ⟨t_2, qt_2, H⟩ := H
  go_wp2_with fail
  go_at_call 67
  refine (Go.Proofs.YtgimcnpkngpmiaaDoor.GsL1In.C (d_0) (0) (4000)  _    qt_2).mono ?_
  rintro e_t_2 wt_2 ⟨rfl, bt_2⟩
  have HBwt_2 := Lib.hid (Below.step HB.out bt_2)
  clear bt_2
  obtain rfl := ret_hid H
  go_wp2_with fail
  go_ret
  exact ⟨rfl, HBwt_2.out⟩
end Go.Proofs.YtgimcnpkngpmiaaDoor.GsL2Day

/- loop.example/g01062/spec.l11One as a plain function, and the contract of the program's: where the plain one has an answer, the program has it. Conditions: slices read as lists. -/
namespace Go.Proofs.YtgimcnpkngpmiaaDoor.GsL11One
set_option linter.unusedVariables false
set_option linter.unusedSimpArgs false
open Go.RowKit
open Go.Proofs.YtgimcnpkngpmiaaDoor.Rowed Go.Proofs.YtgimcnpkngpmiaaDoor.Turn Go.Proofs.YtgimcnpkngpmiaaDoor.Aid Go.Proofs.YtgimcnpkngpmiaaDoor.GoP Go.Proofs.YtgimcnpkngpmiaaDoor.GoM

def l0 (p_lost : ByteArray) (s : Bool × Int) (nx0 bk0 : Bool × Int → Option (Bool)) : Option (Bool) :=
  unp2 s fun seen_3l0 i_4l0 =>
  letK (decide (i_4l0 < (p_lost.size : Int))) fun (t_48 : Bool) =>
  iteK t_48
  (Option.bind (idx p_lost.toList i_4l0) fun (yt_52 : UInt8) =>
  letK ((yt_52.toNat : Int)) fun (t_52 : Int) =>
  letK (t_52 != 46) fun (t_53 : Bool) =>
  joinK (fun (t_60 : Bool) =>
  iteK t_60
  (some false)
  (joinK (fun (t_69 : Bool) =>
  letK (IntKind.i64.wrap (i_4l0 + 1)) fun (t_72 : Int) =>
  appK nx0 (t_69, t_72)) fun jt_69 => iteK seen_3l0 (appK jt_69 true) (Option.bind (idx p_lost.toList i_4l0) fun (yt_67 : UInt8) =>
  letK ((yt_67.toNat : Int)) fun (t_67 : Int) =>
  letK (t_67 == 46) fun (t_68 : Bool) =>
  appK jt_69 t_68))) fun jt_60 => iteK t_53 (Option.bind (idx p_lost.toList i_4l0) fun (yt_58 : UInt8) =>
  letK ((yt_58.toNat : Int)) fun (t_58 : Int) =>
  letK (t_58 != 120) fun (t_59 : Bool) =>
  appK jt_60 t_59) (appK jt_60 false))
  (appK bk0 (seen_3l0, i_4l0))

def e0  (s : Bool × Int) : Option (Bool) :=
  unp2 s fun seen_3l0 i_4l0 =>
  some seen_3l0

def P (fuel : Nat) (p : Go.Proofs.YtgimcnpkngpmiaaDoor.PPostmark.Postmark) : Option (Bool) :=
  unPostmark p fun (p_id : Int) (p_town : ByteArray) (p_kind_ : Int) (p_first : Int) (p_last : Int) (p_lost : ByteArray) =>
  Option.bind (Go.Proofs.YtgimcnpkngpmiaaDoor.GsL1In.P p_id 1 999) fun (t_4 : Bool) =>
  letK (!t_4) fun (t_5 : Bool) =>
  joinK (fun (t_11 : Bool) =>
  joinK (fun (t_17 : Bool) =>
  joinK (fun (t_23 : Bool) =>
  joinK (fun (t_31 : Bool) =>
  joinK (fun (t_40 : Bool) =>
  iteK t_40
  (some false)
  (loopK (l0 p_lost) fuel (false, 0) (e0 ))) fun jt_40 => iteK t_31 (appK jt_40 true) (letK ((p_lost.size : Int) != (p_town.size : Int)) fun (t_39 : Bool) =>
  appK jt_40 t_39)) fun jt_31 => iteK t_23 (appK jt_31 true) (Option.bind (Go.Proofs.YtgimcnpkngpmiaaDoor.GsL1In.P p_first 0 p_last) fun (t_29 : Bool) =>
  letK (!t_29) fun (t_30 : Bool) =>
  appK jt_31 t_30)) fun jt_23 => iteK t_17 (appK jt_23 true) (Option.bind (Go.Proofs.YtgimcnpkngpmiaaDoor.GsL2Day.P p_last) fun (t_21 : Bool) =>
  letK (!t_21) fun (t_22 : Bool) =>
  appK jt_23 t_22)) fun jt_17 => iteK t_11 (appK jt_17 true) (Option.bind (Go.Proofs.YtgimcnpkngpmiaaDoor.GsL1In.P p_kind_ 1 5) fun (t_15 : Bool) =>
  letK (!t_15) fun (t_16 : Bool) =>
  appK jt_17 t_16)) fun jt_11 => iteK t_5 (appK jt_11 true) (Option.bind (Go.Proofs.YtgimcnpkngpmiaaDoor.GsL2Word.P p_town) fun (t_9 : Bool) =>
  letK (!t_9) fun (t_10 : Bool) =>
  appK jt_11 t_10)

set_option maxRecDepth 100000 in
set_option maxHeartbeats 2000000 in
theorem C (fuel : Nat) (p : Go.Proofs.YtgimcnpkngpmiaaDoor.PPostmark.Postmark)   (w : World)   {r : Bool} (H : Hid (P fuel p = some r)) :
    Calls Tryd.prog 56 #[p.val] w (Gives (.bool r) w) := by
  have HB := Lib.hid (Below.refl w.heap.size w)
  unfold P at H
  obtain ⟨p_id, p_town, p_kind_, p_first, p_last, p_lost⟩ := p
  replace H := unPostmark_hid H
  unfold Go.Proofs.YtgimcnpkngpmiaaDoor.PPostmark.Postmark.val
  go_enter Tryd.func56, Tryd.ntmps56
  obtain ⟨w_p_0, hw_p_0⟩ : ∃ x, w.alloc (.cells #[.int .i64 p_id, .string p_town, .int .i64 p_kind_, .int .i64 p_first, .int .i64 p_last, .string p_lost] 39) = x := ⟨_, rfl⟩
  have bw_p_0 : Below w.heap.size w w_p_0 := by rw [← hw_p_0]; exact (Below.refl _ _).alloc (Nat.le_refl _) _
  have HBw_p_0 := Lib.hid (Below.step HB.out bw_p_0)
  clear bw_p_0
  have kp_0_0 : w_p_0.cell? ⟨w.heap.size, 0, none⟩ = some (.int .i64 p_id) := by rw [← hw_p_0]; exact box_new _ _ _ 0 _ rfl
  have kp_0_1 : w_p_0.cell? ⟨w.heap.size, 1, none⟩ = some (.string p_town) := by rw [← hw_p_0]; exact box_new _ _ _ 1 _ rfl
  have kp_0_2 : w_p_0.cell? ⟨w.heap.size, 2, none⟩ = some (.int .i64 p_kind_) := by rw [← hw_p_0]; exact box_new _ _ _ 2 _ rfl
  have kp_0_3 : w_p_0.cell? ⟨w.heap.size, 3, none⟩ = some (.int .i64 p_first) := by rw [← hw_p_0]; exact box_new _ _ _ 3 _ rfl
  have kp_0_4 : w_p_0.cell? ⟨w.heap.size, 4, none⟩ = some (.int .i64 p_last) := by rw [← hw_p_0]; exact box_new _ _ _ 4 _ rfl
  have kp_0_5 : w_p_0.cell? ⟨w.heap.size, 5, none⟩ = some (.string p_lost) := by rw [← hw_p_0]; exact box_new _ _ _ 5 _ rfl
  replace H := bind_hid H
  obtain ⟨t_4, qt_4, H⟩ := H
  go_wp2_with fail
  go_at_call 67
  refine (Go.Proofs.YtgimcnpkngpmiaaDoor.GsL1In.C (p_id) (1) (999)  _    qt_4).mono ?_
  rintro e_t_4 wt_4 ⟨rfl, bt_4⟩
  have HBwt_4 := Lib.hid (Below.step HBw_p_0.out bt_4)
  replace kp_0_0 := cell_below bt_4 kp_0_0
  replace kp_0_1 := cell_below bt_4 kp_0_1
  replace kp_0_2 := cell_below bt_4 kp_0_2
  replace kp_0_3 := cell_below bt_4 kp_0_3
  replace kp_0_4 := cell_below bt_4 kp_0_4
  replace kp_0_5 := cell_below bt_4 kp_0_5
  clear bt_4
  cases t_4 with
  | false =>
    replace H := let_hid H
    obtain ⟨t_5, ht_5, H⟩ := H
    obtain rfl : t_5 = true := ht_5.symm
    replace H := join_hid H
    replace H := ite_t H
    replace H := app_hid H
    replace H := join_hid H
    replace H := ite_t H
    replace H := app_hid H
    replace H := join_hid H
    replace H := ite_t H
    replace H := app_hid H
    replace H := join_hid H
    replace H := ite_t H
    replace H := app_hid H
    replace H := join_hid H
    replace H := ite_t H
    replace H := app_hid H
    replace H := ite_t H
    obtain rfl := ret_hid H
    go_wp2_with fail
    go_ret
    exact ⟨rfl, HBwt_4.out⟩
  | true =>
    replace H := let_hid H
    obtain ⟨t_5, ht_5, H⟩ := H
    obtain rfl : t_5 = false := ht_5.symm
    replace H := join_hid H
    replace H := ite_f H
    replace H := bind_hid H
    obtain ⟨t_9, qt_9, H⟩ := H
    go_wp2_with fail
    go_at_call 75
    refine (Go.Proofs.YtgimcnpkngpmiaaDoor.GsL2Word.C (p_town)  _    qt_9).mono ?_
    rintro e_t_9 wt_9 ⟨rfl, bt_9⟩
    have HBwt_9 := Lib.hid (Below.step HBwt_4.out bt_9)
    replace kp_0_0 := cell_below bt_9 kp_0_0
    replace kp_0_1 := cell_below bt_9 kp_0_1
    replace kp_0_2 := cell_below bt_9 kp_0_2
    replace kp_0_3 := cell_below bt_9 kp_0_3
    replace kp_0_4 := cell_below bt_9 kp_0_4
    replace kp_0_5 := cell_below bt_9 kp_0_5
    clear bt_9
    cases t_9 with
    | false =>
      replace H := let_hid H
      obtain ⟨t_10, ht_10, H⟩ := H
      obtain rfl : t_10 = true := ht_10.symm
      replace H := app_hid H
      replace H := join_hid H
      replace H := ite_t H
      replace H := app_hid H
      replace H := join_hid H
      replace H := ite_t H
      replace H := app_hid H
      replace H := join_hid H
      replace H := ite_t H
      replace H := app_hid H
      replace H := join_hid H
      replace H := ite_t H
      replace H := app_hid H
      replace H := ite_t H
      obtain rfl := ret_hid H
      go_wp2_with fail
      go_ret
      exact ⟨rfl, HBwt_9.out⟩
    | true =>
      replace H := let_hid H
      obtain ⟨t_10, ht_10, H⟩ := H
      obtain rfl : t_10 = false := ht_10.symm
      replace H := app_hid H
      replace H := join_hid H
      replace H := ite_f H
      replace H := bind_hid H
      obtain ⟨t_15, qt_15, H⟩ := H
      go_wp2_with fail
      go_at_call 67
      refine (Go.Proofs.YtgimcnpkngpmiaaDoor.GsL1In.C (p_kind_) (1) (5)  _    qt_15).mono ?_
      rintro e_t_15 wt_15 ⟨rfl, bt_15⟩
      have HBwt_15 := Lib.hid (Below.step HBwt_9.out bt_15)
      replace kp_0_0 := cell_below bt_15 kp_0_0
      replace kp_0_1 := cell_below bt_15 kp_0_1
      replace kp_0_2 := cell_below bt_15 kp_0_2
      replace kp_0_3 := cell_below bt_15 kp_0_3
      replace kp_0_4 := cell_below bt_15 kp_0_4
      replace kp_0_5 := cell_below bt_15 kp_0_5
      clear bt_15
      cases t_15 with
      | false =>
        replace H := let_hid H
        obtain ⟨t_16, ht_16, H⟩ := H
        obtain rfl : t_16 = true := ht_16.symm
        replace H := app_hid H
        replace H := join_hid H
        replace H := ite_t H
        replace H := app_hid H
        replace H := join_hid H
        replace H := ite_t H
        replace H := app_hid H
        replace H := join_hid H
        replace H := ite_t H
        replace H := app_hid H
        replace H := ite_t H
        obtain rfl := ret_hid H
        go_wp2_with fail
        go_ret
        exact ⟨rfl, HBwt_15.out⟩
      | true =>
        replace H := let_hid H
        obtain ⟨t_16, ht_16, H⟩ := H
        obtain rfl : t_16 = false := ht_16.symm
        replace H := app_hid H
        replace H := join_hid H
        replace H := ite_f H
        replace H := bind_hid H
        obtain ⟨t_21, qt_21, H⟩ := H
        go_wp2_with fail
        go_at_call 42
        refine (Go.Proofs.YtgimcnpkngpmiaaDoor.GsL2Day.C (p_last)  _    qt_21).mono ?_
        rintro e_t_21 wt_21 ⟨rfl, bt_21⟩
        have HBwt_21 := Lib.hid (Below.step HBwt_15.out bt_21)
        replace kp_0_0 := cell_below bt_21 kp_0_0
        replace kp_0_1 := cell_below bt_21 kp_0_1
        replace kp_0_2 := cell_below bt_21 kp_0_2
        replace kp_0_3 := cell_below bt_21 kp_0_3
        replace kp_0_4 := cell_below bt_21 kp_0_4
        replace kp_0_5 := cell_below bt_21 kp_0_5
        clear bt_21
        cases t_21 with
        | false =>
          replace H := let_hid H
          obtain ⟨t_22, ht_22, H⟩ := H
          obtain rfl : t_22 = true := ht_22.symm
          replace H := app_hid H
          replace H := join_hid H
          replace H := ite_t H
          replace H := app_hid H
          replace H := join_hid H
          replace H := ite_t H
          replace H := app_hid H
          replace H := ite_t H
          obtain rfl := ret_hid H
          go_wp2_with fail
          go_ret
          exact ⟨rfl, HBwt_21.out⟩
        | true =>
          replace H := let_hid H
          obtain ⟨t_22, ht_22, H⟩ := H
          obtain rfl : t_22 = false := ht_22.symm
          replace H := app_hid H
          replace H := join_hid H
          replace H := ite_f H
          replace H := bind_hid H
          obtain ⟨t_29, qt_29, H⟩ := H
          go_wp2_with fail
          go_at_call 67
          refine (Go.Proofs.YtgimcnpkngpmiaaDoor.GsL1In.C (p_first) (0) (p_last)  _    qt_29).mono ?_
          rintro e_t_29 wt_29 ⟨rfl, bt_29⟩
          have HBwt_29 := Lib.hid (Below.step HBwt_21.out bt_29)
          replace kp_0_0 := cell_below bt_29 kp_0_0
          replace kp_0_1 := cell_below bt_29 kp_0_1
          replace kp_0_2 := cell_below bt_29 kp_0_2
          replace kp_0_3 := cell_below bt_29 kp_0_3
          replace kp_0_4 := cell_below bt_29 kp_0_4
          replace kp_0_5 := cell_below bt_29 kp_0_5
          clear bt_29
          cases t_29 with
          | false =>
            replace H := let_hid H
            obtain ⟨t_30, ht_30, H⟩ := H
            obtain rfl : t_30 = true := ht_30.symm
            replace H := app_hid H
            replace H := join_hid H
            replace H := ite_t H
            replace H := app_hid H
            replace H := ite_t H
            obtain rfl := ret_hid H
            go_wp2_with fail
            go_ret
            exact ⟨rfl, HBwt_29.out⟩
          | true =>
            replace H := let_hid H
            obtain ⟨t_30, ht_30, H⟩ := H
            obtain rfl : t_30 = false := ht_30.symm
            replace H := app_hid H
            replace H := join_hid H
            replace H := ite_f H
            replace H := let_hid H
            obtain ⟨t_39, ht_39, H⟩ := H
            replace H := app_hid H
            cases t_39 with
            | false =>
              have Hht_39 : Hid (p_lost.size = p_town.size) := Lib.hid (by have := bne_eq_false_iff_eq.1 ht_39; omega)
              have nht_39 : (p_lost.size == p_town.size) = true := beq_iff_eq.2 Hht_39.out
              replace H := ite_f H
              go_wp2_with fail
              go_loopg [3, 4] (fuel) (fun m_ v3_ v4_ wr => ∃ (seen_3l0 : Bool) (i_4l0 : Int), v3_ = .bool seen_3l0 ∧ v4_ = .int .i64 i_4l0 ∧ Hid (loopK (l0 p_lost) m_ (seen_3l0, i_4l0) (e0 ) = some r) ∧ Hid (Below w.heap.size w wr) ∧ wr.cell? ⟨w.heap.size, 0, none⟩ = some (.int .i64 p_id) ∧ wr.cell? ⟨w.heap.size, 1, none⟩ = some (.string p_town) ∧ wr.cell? ⟨w.heap.size, 2, none⟩ = some (.int .i64 p_kind_) ∧ wr.cell? ⟨w.heap.size, 3, none⟩ = some (.int .i64 p_first) ∧ wr.cell? ⟨w.heap.size, 4, none⟩ = some (.int .i64 p_last) ∧ wr.cell? ⟨w.heap.size, 5, none⟩ = some (.string p_lost))
              case atStart => exact ⟨_, _, rfl, rfl, H, HBwt_29, kp_0_0, kp_0_1, kp_0_2, kp_0_3, kp_0_4, kp_0_5⟩
              case round =>
                obtain ⟨seen_3l0, i_4l0, rfl, rfl, H, HBwr0, kp_0_0, kp_0_1, kp_0_2, kp_0_3, kp_0_4, kp_0_5⟩ := hrel
                rename World => wr0
                cases gk with
                | zero => exact (loop_zero H).elim
                | succ m0 =>
                  replace H := loop_succ H
                  unfold l0 at H
                  replace H := unp2_hid H
                  replace H := let_hid H
                  obtain ⟨t_48, ht_48, H⟩ := H
                  cases t_48 with
                  | false =>
                    replace H := ite_f H
                    replace H := app_hid H
                    unfold e0 at H
                    replace H := unp2_hid H
                    obtain rfl := ret_hid H
                    go_wp2_with fail
                    go_ret
                    exact ⟨rfl, HBwr0.out⟩
                  | true =>
                    replace H := ite_t H
                    replace H := idx_hid H
                    obtain ⟨nt_52, yt_52, et_52, lt_52, gt_52, H⟩ := H
                    subst et_52
                    have nc_352 : nt_52 < p_lost.size := by have := of_decide_eq_true ht_48; omega
                    have rt_52 := byte_rule lt_52 gt_52.out
                    have b0t_52 : (0 : Int) ≤ (nt_52 : Int) := by omega
                    have b1t_52 : (nt_52 : Int) < (p_lost.size : Int) := by have := size_list p_lost; omega
                    have b2t_52 : ((nt_52 : Int)).toNat = nt_52 := by omega
                    have b3t_52 : nt_52 < p_lost.size := by have := size_list p_lost; omega
                    replace H := let_hid H
                    obtain ⟨t_52, ht_52, H⟩ := H
                    replace H := let_hid H
                    obtain ⟨t_53, ht_53, H⟩ := H
                    replace H := join_hid H
                    cases t_53 with
                    | false =>
                      replace H := ite_f H
                      replace H := app_hid H
                      replace H := ite_f H
                      replace H := join_hid H
                      cases seen_3l0 with
                      | false =>
                        replace H := ite_f H
                        replace H := idx_hid H
                        obtain ⟨nt_67, yt_67, et_67, lt_67, gt_67, H⟩ := H
                        obtain rfl : nt_52 = nt_67 := by omega
                        clear et_67
                        obtain rfl := Option.some.inj (gt_52.out.symm.trans gt_67.out)
                        clear gt_67 lt_67
                        replace H := let_hid H
                        obtain ⟨t_67, ht_67, H⟩ := H
                        obtain rfl := ht_52.symm.trans ht_67
                        replace H := let_hid H
                        obtain ⟨t_68, ht_68, H⟩ := H
                        replace H := app_hid H
                        replace H := let_hid H
                        obtain ⟨t_72, ht_72, H⟩ := H
                        replace H := app_hid H
                        go_wp2_with fail
                        go_roundg m0
                        case measure => omega
                        case rel => exact ⟨_, _, rfl, rfl, H, HBwr0, kp_0_0, kp_0_1, kp_0_2, kp_0_3, kp_0_4, kp_0_5⟩
                      | true =>
                        replace H := ite_t H
                        replace H := app_hid H
                        replace H := let_hid H
                        obtain ⟨t_72, ht_72, H⟩ := H
                        replace H := app_hid H
                        go_wp2_with fail
                        go_roundg m0
                        case measure => omega
                        case rel => exact ⟨_, _, rfl, rfl, H, HBwr0, kp_0_0, kp_0_1, kp_0_2, kp_0_3, kp_0_4, kp_0_5⟩
                    | true =>
                      replace H := ite_t H
                      replace H := idx_hid H
                      obtain ⟨nt_58, yt_58, et_58, lt_58, gt_58, H⟩ := H
                      obtain rfl : nt_52 = nt_58 := by omega
                      clear et_58
                      obtain rfl := Option.some.inj (gt_52.out.symm.trans gt_58.out)
                      clear gt_58 lt_58
                      replace H := let_hid H
                      obtain ⟨t_58, ht_58, H⟩ := H
                      obtain rfl := ht_52.symm.trans ht_58
                      replace H := let_hid H
                      obtain ⟨t_59, ht_59, H⟩ := H
                      replace H := app_hid H
                      cases t_59 with
                      | false =>
                        replace H := ite_f H
                        replace H := join_hid H
                        cases seen_3l0 with
                        | false =>
                          replace H := ite_f H
                          replace H := idx_hid H
                          obtain ⟨nt_67, yt_67, et_67, lt_67, gt_67, H⟩ := H
                          obtain rfl : nt_52 = nt_67 := by omega
                          clear et_67
                          obtain rfl := Option.some.inj (gt_52.out.symm.trans gt_67.out)
                          clear gt_67 lt_67
                          replace H := let_hid H
                          obtain ⟨t_67, ht_67, H⟩ := H
                          obtain rfl := ht_52.symm.trans ht_67
                          replace H := let_hid H
                          obtain ⟨t_68, ht_68, H⟩ := H
                          replace H := app_hid H
                          replace H := let_hid H
                          obtain ⟨t_72, ht_72, H⟩ := H
                          replace H := app_hid H
                          go_wp2_with fail
                          go_roundg m0
                          case measure => omega
                          case rel => exact ⟨_, _, rfl, rfl, H, HBwr0, kp_0_0, kp_0_1, kp_0_2, kp_0_3, kp_0_4, kp_0_5⟩
                        | true =>
                          replace H := ite_t H
                          replace H := app_hid H
                          replace H := let_hid H
                          obtain ⟨t_72, ht_72, H⟩ := H
                          replace H := app_hid H
                          go_wp2_with fail
                          go_roundg m0
                          case measure => omega
                          case rel => exact ⟨_, _, rfl, rfl, H, HBwr0, kp_0_0, kp_0_1, kp_0_2, kp_0_3, kp_0_4, kp_0_5⟩
                      | true =>
                        replace H := ite_t H
                        obtain rfl := ret_hid H
                        go_wp2_with fail
                        go_ret
                        exact ⟨rfl, HBwr0.out⟩
            | true =>
              have nht_39 : ¬ (p_lost.size = p_town.size) := by have := bne_iff_ne.1 ht_39; omega
              replace H := ite_t H
              obtain rfl := ret_hid H
              go_wp2_with fail
              go_ret
              exact ⟨rfl, HBwt_29.out⟩
end Go.Proofs.YtgimcnpkngpmiaaDoor.GsL11One

