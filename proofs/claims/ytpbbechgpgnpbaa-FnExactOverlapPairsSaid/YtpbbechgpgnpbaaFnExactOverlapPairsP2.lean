/- The texts on which the proof of FnExactOverlapPairs stands, one behind the other (2 of 3). No condition of their own. -/
import Derived.Test.YtpbbechgpgnpbaaChecked
import Derived.Test.YtpbbechgpgnpbaaFnExactOverlapPairsP1
import Derived.WalkKit
import Derived.WalkSpells
import Derived.WalkLawsBesides
import Derived.BigQuiet
import Derived.OwnWalk
import Derived.Deep.LoopGhost
import Derived.Deep.QuietTactic
import Derived.IntWalk
import Derived.Lib.QuietBelow
import Derived.Lib.Hide
import Derived.Outline
import Derived.Lib.ItoaLen
import Derived.Lib.ItoaMem
import Derived.Laws.IdiomStrings
import Derived.Deep.RegionHeld3
/- loop.example/g01062/impl.areByKey[loop.example/g01062/impl.Shade,string] as a plain function, and the contract of the program's: where the plain one has an answer, the program has it. Conditions: slices read as lists. -/
namespace Go.Proofs.Ytpbbechgpgnpbaa.GiAreByKeyShadeStringiIsShadeiNameOfShade
set_option linter.unusedVariables false
set_option linter.unusedSimpArgs false
open Go.RowKit
open Go.Proofs.Ytpbbechgpgnpbaa.Rowed Go.Proofs.Ytpbbechgpgnpbaa.Turn Go.Proofs.Ytpbbechgpgnpbaa.Aid Go.Proofs.Ytpbbechgpgnpbaa.GoP Go.Proofs.Ytpbbechgpgnpbaa.GoM

def l0 (list : (List Go.Proofs.Ytpbbechgpgnpbaa.PShade.Shade)) (k0 : Nat) (s : Unit) (nx0 bk0 : Unit → Option (Bool)) : Option (Bool) :=
  
  Option.bind (idx list (k0 : Int)) fun (yt_11 : Go.Proofs.Ytpbbechgpgnpbaa.PShade.Shade) =>
  unShade yt_11 fun (t_11_name : ByteArray) (t_11_hue : Int) (t_11_width : Int) (t_11_dark : Int) (t_11_light : Int) =>
  Option.bind (Go.Proofs.Ytpbbechgpgnpbaa.GiIsShade.P (Go.Proofs.Ytpbbechgpgnpbaa.PShade.Shade.mk t_11_name t_11_hue t_11_width t_11_dark t_11_light)) fun (t_18 : Bool) =>
  letK (!t_18) fun (t_19 : Bool) =>
  joinK (fun (t_36 : Bool) =>
  iteK t_36
  (some false)
  (appK nx0 ())) fun jt_36 => iteK t_19 (appK jt_36 true) (letK (decide (0 < (k0 : Int))) fun (t_22 : Bool) =>
  joinK (fun (t_35 : Bool) =>
  appK jt_36 t_35) fun jt_35 => iteK t_22 (Option.bind (Go.Proofs.Ytpbbechgpgnpbaa.GiNameOfShade.P (Go.Proofs.Ytpbbechgpgnpbaa.PShade.Shade.mk t_11_name t_11_hue t_11_width t_11_dark t_11_light)) fun (t_26 : ByteArray) =>
  letK (IntKind.i64.wrap ((k0 : Int) - 1)) fun (t_30 : Int) =>
  Option.bind (idx list t_30) fun (yt_31 : Go.Proofs.Ytpbbechgpgnpbaa.PShade.Shade) =>
  unShade yt_31 fun (t_31_name : ByteArray) (t_31_hue : Int) (t_31_width : Int) (t_31_dark : Int) (t_31_light : Int) =>
  Option.bind (Go.Proofs.Ytpbbechgpgnpbaa.GiNameOfShade.P (Go.Proofs.Ytpbbechgpgnpbaa.PShade.Shade.mk t_31_name t_31_hue t_31_width t_31_dark t_31_light)) fun (t_33 : ByteArray) =>
  letK (Op.bytesLess t_26.toList t_33.toList || t_26.toList == t_33.toList) fun (t_34 : Bool) =>
  appK jt_35 t_34) (appK jt_35 false))

def e0  (s : Unit) : Option (Bool) :=
  
  some true

def P (list : (List Go.Proofs.Ytpbbechgpgnpbaa.PShade.Shade)) (most : Int) : Option (Bool) :=
  letK (decide (most < (list.length : Int))) fun (t_4 : Bool) =>
  iteK t_4
  (some false)
  (cntK (l0 list) (list.length) 0 () (e0 ))

set_option maxRecDepth 100000 in
set_option maxHeartbeats 2000000 in
theorem C (list : (List Go.Proofs.Ytpbbechgpgnpbaa.PShade.Shade)) (most : Int) (A0 : Option Addr) (c0 : Nat)  (w : World) (M0 : Hid (Cells w 5 A0 list.length (Go.Proofs.Ytpbbechgpgnpbaa.PShade.flat list))) (N0 : Hid (list.length ≤ 9223372036854775807))  {r : Bool} (H : Hid (P list most = some r)) :
    Calls Try.prog 61 #[.slice A0 list.length c0, .int .i64 most, .func (.func 18) #[] #[], .func (.func 62) #[] #[]] w (Gives (.bool r) w) := by
  have HB := Lib.hid (Below.refl w.heap.size w)
  unfold P at H
  have N0o := N0.out
  go_enter Try.func61, Try.ntmps61
  replace H := let_hid H
  obtain ⟨t_4, ht_4, H⟩ := H
  cases t_4 with
  | false =>
    replace H := ite_f H
    go_wp2_with fail
    go_loopg [17] (list.length) (fun m_ v17_ wr => ∃ (k0 : Nat) , k0 + m_ = list.length ∧ v17_ = .int .i64 (k0 : Int) ∧ Hid (cntK (l0 list) m_ k0 () (e0 ) = some r) ∧ Hid (Below w.heap.size w wr))
    case atStart => exact ⟨0, by omega, rfl, H, HB⟩
    case round =>
      obtain ⟨k0, hkm0, rfl, H, HBwr0⟩ := hrel
      rename World => wr0
      cases gk with
      | zero =>
        obtain rfl : k0 = list.length := by omega
        have hc0 : decide (((list.length : Nat) : Int) < ((list.length : Nat) : Int)) = false := by simp
        replace H := cnt_zero H
        unfold e0 at H
        obtain rfl := ret_hid H
        go_wp2_with fail
        go_ret
        exact ⟨rfl, HBwr0.out⟩
      | succ m0 =>
        have hlt0 : k0 < list.length := by omega
        have hc0 : decide ((k0 : Int) < ((list.length : Nat) : Int)) = true := by simp; omega
        replace H := cnt_succ H
        unfold l0 at H
        replace H := idx_hid H
        obtain ⟨nt_11, yt_11, et_11, lt_11, gt_11, H⟩ := H
        obtain rfl : k0 = nt_11 := by omega
        clear et_11
        obtain ⟨t_11_name, t_11_hue, t_11_width, t_11_dark, t_11_light⟩ := yt_11
        replace H := unShade_hid H
        obtain ⟨ab_t_11, ao_t_11, zt_11, At_11, z_t_11, ct_11_0, ct_11_1, ct_11_2, ct_11_3, ct_11_4⟩ := Go.Proofs.Ytpbbechgpgnpbaa.OShade.at_ M0.out lt_11
        obtain rfl := Option.some.inj (gt_11.out.symm.trans z_t_11)
        subst At_11
        have ltt_11 := cell_lt ct_11_0
        replace ct_11_0 := cell_below HBwr0.out ct_11_0
        replace ct_11_1 := cell_below HBwr0.out ct_11_1
        replace ct_11_2 := cell_below HBwr0.out ct_11_2
        replace ct_11_3 := cell_below HBwr0.out ct_11_3
        replace ct_11_4 := cell_below HBwr0.out ct_11_4
        clear z_t_11
        have b0t_11 : (0 : Int) ≤ (k0 : Int) := by omega
        have b1t_11 : (k0 : Int) < ((list.length : Nat) : Int) := by omega
        have b2t_11 : ((k0 : Int)).toNat = k0 := by omega
        obtain ⟨w_e_13, hw_e_13⟩ : ∃ x, wr0.alloc (.cells #[.string t_11_name, .int .i64 t_11_hue, .int .i64 t_11_width, .int .i64 t_11_dark, .int .i64 t_11_light] 26) = x := ⟨_, rfl⟩
        have bw_e_13 : Below wr0.heap.size wr0 w_e_13 := by rw [← hw_e_13]; exact (Below.refl _ _).alloc (Nat.le_refl _) _
        have HBw_e_13 := Lib.hid (Below.step HBwr0.out bw_e_13)
        have ct_11_0__137 := cell_below bw_e_13 ct_11_0
        have ct_11_1__138 := cell_below bw_e_13 ct_11_1
        have ct_11_2__139 := cell_below bw_e_13 ct_11_2
        have ct_11_3__140 := cell_below bw_e_13 ct_11_3
        have ct_11_4__141 := cell_below bw_e_13 ct_11_4
        clear bw_e_13
        have ke_13_0 : w_e_13.cell? ⟨wr0.heap.size, 0, none⟩ = some (.string t_11_name) := by rw [← hw_e_13]; exact box_new _ _ _ 0 _ rfl
        have ke_13_1 : w_e_13.cell? ⟨wr0.heap.size, 1, none⟩ = some (.int .i64 t_11_hue) := by rw [← hw_e_13]; exact box_new _ _ _ 1 _ rfl
        have ke_13_2 : w_e_13.cell? ⟨wr0.heap.size, 2, none⟩ = some (.int .i64 t_11_width) := by rw [← hw_e_13]; exact box_new _ _ _ 2 _ rfl
        have ke_13_3 : w_e_13.cell? ⟨wr0.heap.size, 3, none⟩ = some (.int .i64 t_11_dark) := by rw [← hw_e_13]; exact box_new _ _ _ 3 _ rfl
        have ke_13_4 : w_e_13.cell? ⟨wr0.heap.size, 4, none⟩ = some (.int .i64 t_11_light) := by rw [← hw_e_13]; exact box_new _ _ _ 4 _ rfl
        go_wp2_with fail
        clear ct_11_0 ct_11_1 ct_11_2 ct_11_3 ct_11_4
        have Hct_11_0__137 := Lib.hid ct_11_0__137
        replace ct_11_0__137 := cell_regrown ct_11_0__137
        have Hct_11_1__138 := Lib.hid ct_11_1__138
        replace ct_11_1__138 := cell_regrown ct_11_1__138
        have Hct_11_2__139 := Lib.hid ct_11_2__139
        replace ct_11_2__139 := cell_regrown ct_11_2__139
        have Hct_11_3__140 := Lib.hid ct_11_3__140
        replace ct_11_3__140 := cell_regrown ct_11_3__140
        have Hct_11_4__141 := Lib.hid ct_11_4__141
        replace ct_11_4__141 := cell_regrown ct_11_4__141
        have Hke_13_0 := Lib.hid ke_13_0
        replace ke_13_0 := cell_regrown ke_13_0
        have Hke_13_1 := Lib.hid ke_13_1
        replace ke_13_1 := cell_regrown ke_13_1
        have Hke_13_2 := Lib.hid ke_13_2
        replace ke_13_2 := cell_regrown ke_13_2
        have Hke_13_3 := Lib.hid ke_13_3
        replace ke_13_3 := cell_regrown ke_13_3
        have Hke_13_4 := Lib.hid ke_13_4
        replace ke_13_4 := cell_regrown ke_13_4
        replace H := bind_hid H
        obtain ⟨t_18, qt_18, H⟩ := H
        have nt_18 : ∀ d os, Calls Try.prog 18 #[.agg #[.string t_11_name, .int .i64 t_11_hue, .int .i64 t_11_width, .int .i64 t_11_dark, .int .i64 t_11_light]] (Go.Sort.grow (redrawn w_e_13 d) os) fun e w'' => e = .returned (.bool t_18) ∧ ∃ p : Regrown, w'' = Go.Sort.grow (redrawn w_e_13 p.d) p.os := fun d os => Calls.regrown_of (Go.Proofs.Ytpbbechgpgnpbaa.GiIsShade.C ((Go.Proofs.Ytpbbechgpgnpbaa.PShade.Shade.mk t_11_name t_11_hue t_11_width t_11_dark t_11_light))  _    qt_18)
        cases t_18 with
        | false =>
          replace H := let_hid H
          obtain ⟨t_19, ht_19, H⟩ := H
          obtain rfl : t_19 = true := ht_19.symm
          replace H := join_hid H
          replace H := ite_t H
          replace H := app_hid H
          refine wp_region_quiet_below (by kernel_rfl) (by kernel_rfl) ?_
          repeat (go_big_quiet_step (first | (go_at_call 18; exact nt_18 _ _)))
          refine wpQuiet_nil ?_
          intro Y6 hY6
          replace hY6 := below_class hY6
          clear nt_18
          replace ct_11_0__137 := Hct_11_0__137.out
          clear Hct_11_0__137
          replace ct_11_1__138 := Hct_11_1__138.out
          clear Hct_11_1__138
          replace ct_11_2__139 := Hct_11_2__139.out
          clear Hct_11_2__139
          replace ct_11_3__140 := Hct_11_3__140.out
          clear Hct_11_3__140
          replace ct_11_4__141 := Hct_11_4__141.out
          clear Hct_11_4__141
          replace ke_13_0 := Hke_13_0.out
          clear Hke_13_0
          replace ke_13_1 := Hke_13_1.out
          clear Hke_13_1
          replace ke_13_2 := Hke_13_2.out
          clear Hke_13_2
          replace ke_13_3 := Hke_13_3.out
          clear Hke_13_3
          replace ke_13_4 := Hke_13_4.out
          clear Hke_13_4
          have HBY6 := Lib.hid (Below.step HBw_e_13.out hY6)
          replace ct_11_0__137 := cell_below hY6 ct_11_0__137
          replace ct_11_1__138 := cell_below hY6 ct_11_1__138
          replace ct_11_2__139 := cell_below hY6 ct_11_2__139
          replace ct_11_3__140 := cell_below hY6 ct_11_3__140
          replace ct_11_4__141 := cell_below hY6 ct_11_4__141
          replace ke_13_0 := cell_below hY6 ke_13_0
          replace ke_13_1 := cell_below hY6 ke_13_1
          replace ke_13_2 := cell_below hY6 ke_13_2
          replace ke_13_3 := cell_below hY6 ke_13_3
          replace ke_13_4 := cell_below hY6 ke_13_4
          clear hY6
          replace H := ite_t H
          obtain rfl := ret_hid H
          go_wp2_with fail
          go_ret
          exact ⟨rfl, HBY6.out⟩
        | true =>
          replace H := let_hid H
          obtain ⟨t_19, ht_19, H⟩ := H
          obtain rfl : t_19 = false := ht_19.symm
          replace H := join_hid H
          replace H := ite_f H
          replace H := let_hid H
          obtain ⟨t_22, ht_22, H⟩ := H
          replace H := join_hid H
          cases t_22 with
          | false =>
            have nht_22 : ¬ (0 < k0) := by have := of_decide_eq_false ht_22; omega
            replace H := ite_f H
            replace H := app_hid H
            replace H := app_hid H
            refine wp_region_quiet_below (by kernel_rfl) (by kernel_rfl) ?_
            repeat (go_big_quiet_step (first | (go_at_call 18; exact nt_18 _ _)))
            refine wpQuiet_nil ?_
            intro Y6 hY6
            replace hY6 := below_class hY6
            clear nt_18
            replace ct_11_0__137 := Hct_11_0__137.out
            clear Hct_11_0__137
            replace ct_11_1__138 := Hct_11_1__138.out
            clear Hct_11_1__138
            replace ct_11_2__139 := Hct_11_2__139.out
            clear Hct_11_2__139
            replace ct_11_3__140 := Hct_11_3__140.out
            clear Hct_11_3__140
            replace ct_11_4__141 := Hct_11_4__141.out
            clear Hct_11_4__141
            replace ke_13_0 := Hke_13_0.out
            clear Hke_13_0
            replace ke_13_1 := Hke_13_1.out
            clear Hke_13_1
            replace ke_13_2 := Hke_13_2.out
            clear Hke_13_2
            replace ke_13_3 := Hke_13_3.out
            clear Hke_13_3
            replace ke_13_4 := Hke_13_4.out
            clear Hke_13_4
            have HBY6 := Lib.hid (Below.step HBw_e_13.out hY6)
            replace ct_11_0__137 := cell_below hY6 ct_11_0__137
            replace ct_11_1__138 := cell_below hY6 ct_11_1__138
            replace ct_11_2__139 := cell_below hY6 ct_11_2__139
            replace ct_11_3__140 := cell_below hY6 ct_11_3__140
            replace ct_11_4__141 := cell_below hY6 ct_11_4__141
            replace ke_13_0 := cell_below hY6 ke_13_0
            replace ke_13_1 := cell_below hY6 ke_13_1
            replace ke_13_2 := cell_below hY6 ke_13_2
            replace ke_13_3 := cell_below hY6 ke_13_3
            replace ke_13_4 := cell_below hY6 ke_13_4
            clear hY6
            replace H := ite_f H
            replace H := app_hid H
            go_wp2_with fail
            go_roundg m0
            case measure => omega
            case rel => exact ⟨k0 + 1, by omega, by go_num, H, HBY6⟩
          | true =>
            have nht_22 : 0 < k0 := by have := of_decide_eq_true ht_22; omega
            replace H := ite_t H
            replace H := bind_hid H
            obtain ⟨t_26, qt_26, H⟩ := H
            have nt_26 : ∀ d os, Calls Try.prog 62 #[.agg #[.string t_11_name, .int .i64 t_11_hue, .int .i64 t_11_width, .int .i64 t_11_dark, .int .i64 t_11_light]] (Go.Sort.grow (redrawn w_e_13 d) os) fun e w'' => e = .returned (.string t_26) ∧ ∃ p : Regrown, w'' = Go.Sort.grow (redrawn w_e_13 p.d) p.os := fun d os => Calls.regrown_of (Go.Proofs.Ytpbbechgpgnpbaa.GiNameOfShade.C ((Go.Proofs.Ytpbbechgpgnpbaa.PShade.Shade.mk t_11_name t_11_hue t_11_width t_11_dark t_11_light))  _    qt_26)
            replace H := let_hid H
            obtain ⟨t_30, ht_30, H⟩ := H
            replace H := idx_hid H
            obtain ⟨nt_31, yt_31, et_31, lt_31, gt_31, H⟩ := H
            subst et_31
            obtain ⟨t_31_name, t_31_hue, t_31_width, t_31_dark, t_31_light⟩ := yt_31
            replace H := unShade_hid H
            obtain ⟨ab_t_31, ao_t_31, zt_31, At_31, z_t_31, ct_31_0, ct_31_1, ct_31_2, ct_31_3, ct_31_4⟩ := Go.Proofs.Ytpbbechgpgnpbaa.OShade.at_ M0.out lt_31
            obtain rfl := Option.some.inj (gt_31.out.symm.trans z_t_31)
            simp only [Option.some.injEq, Addr.mk.injEq] at At_31
            obtain ⟨rfl, rfl, _⟩ := At_31
            have ltt_31 := cell_lt ct_31_0
            replace ct_31_0 := cell_below HBw_e_13.out ct_31_0
            replace ct_31_1 := cell_below HBw_e_13.out ct_31_1
            replace ct_31_2 := cell_below HBw_e_13.out ct_31_2
            replace ct_31_3 := cell_below HBw_e_13.out ct_31_3
            replace ct_31_4 := cell_below HBw_e_13.out ct_31_4
            clear z_t_31
            have b0t_31 : (0 : Int) ≤ (nt_31 : Int) := by omega
            have b1t_31 : (nt_31 : Int) < ((list.length : Nat) : Int) := by omega
            have b2t_31 : ((nt_31 : Int)).toNat = nt_31 := by omega
            have Hct_31_0 := Lib.hid ct_31_0
            replace ct_31_0 := cell_regrown ct_31_0
            have Hct_31_1 := Lib.hid ct_31_1
            replace ct_31_1 := cell_regrown ct_31_1
            have Hct_31_2 := Lib.hid ct_31_2
            replace ct_31_2 := cell_regrown ct_31_2
            have Hct_31_3 := Lib.hid ct_31_3
            replace ct_31_3 := cell_regrown ct_31_3
            have Hct_31_4 := Lib.hid ct_31_4
            replace ct_31_4 := cell_regrown ct_31_4
            replace H := bind_hid H
            obtain ⟨t_33, qt_33, H⟩ := H
            have nt_33 : ∀ d os, Calls Try.prog 62 #[.agg #[.string t_31_name, .int .i64 t_31_hue, .int .i64 t_31_width, .int .i64 t_31_dark, .int .i64 t_31_light]] (Go.Sort.grow (redrawn w_e_13 d) os) fun e w'' => e = .returned (.string t_33) ∧ ∃ p : Regrown, w'' = Go.Sort.grow (redrawn w_e_13 p.d) p.os := fun d os => Calls.regrown_of (Go.Proofs.Ytpbbechgpgnpbaa.GiNameOfShade.C ((Go.Proofs.Ytpbbechgpgnpbaa.PShade.Shade.mk t_31_name t_31_hue t_31_width t_31_dark t_31_light))  _    qt_33)
            replace H := let_hid H
            obtain ⟨t_34, ht_34, H⟩ := H
            replace H := app_hid H
            replace H := app_hid H
            refine wp_region_quiet_below (by kernel_rfl) (by kernel_rfl) ?_
            repeat (go_big_quiet_step (first | (go_at_call 62; with_reducible exact nt_26 _ _) | (go_at_call 62; with_reducible exact nt_33 _ _) | (go_at_call 18; exact nt_18 _ _) | (go_at_call 62; exact nt_26 _ _) | (go_at_call 62; exact nt_33 _ _)))
            refine wpQuiet_nil ?_
            intro Y6 hY6
            replace hY6 := below_class hY6
            clear nt_18 nt_26 nt_33
            replace ct_11_0__137 := Hct_11_0__137.out
            clear Hct_11_0__137
            replace ct_11_1__138 := Hct_11_1__138.out
            clear Hct_11_1__138
            replace ct_11_2__139 := Hct_11_2__139.out
            clear Hct_11_2__139
            replace ct_11_3__140 := Hct_11_3__140.out
            clear Hct_11_3__140
            replace ct_11_4__141 := Hct_11_4__141.out
            clear Hct_11_4__141
            replace ke_13_0 := Hke_13_0.out
            clear Hke_13_0
            replace ke_13_1 := Hke_13_1.out
            clear Hke_13_1
            replace ke_13_2 := Hke_13_2.out
            clear Hke_13_2
            replace ke_13_3 := Hke_13_3.out
            clear Hke_13_3
            replace ke_13_4 := Hke_13_4.out
            clear Hke_13_4
            replace ct_31_0 := Hct_31_0.out
            clear Hct_31_0
            replace ct_31_1 := Hct_31_1.out
            clear Hct_31_1
            replace ct_31_2 := Hct_31_2.out
            clear Hct_31_2
            replace ct_31_3 := Hct_31_3.out
            clear Hct_31_3
            replace ct_31_4 := Hct_31_4.out
            clear Hct_31_4
            have HBY6 := Lib.hid (Below.step HBw_e_13.out hY6)
            replace ct_11_0__137 := cell_below hY6 ct_11_0__137
            replace ct_11_1__138 := cell_below hY6 ct_11_1__138
            replace ct_11_2__139 := cell_below hY6 ct_11_2__139
            replace ct_11_3__140 := cell_below hY6 ct_11_3__140
            replace ct_11_4__141 := cell_below hY6 ct_11_4__141
            replace ke_13_0 := cell_below hY6 ke_13_0
            replace ke_13_1 := cell_below hY6 ke_13_1
            replace ke_13_2 := cell_below hY6 ke_13_2
            replace ke_13_3 := cell_below hY6 ke_13_3
            replace ke_13_4 := cell_below hY6 ke_13_4
            replace ct_31_0 := cell_below hY6 ct_31_0
            replace ct_31_1 := cell_below hY6 ct_31_1
            replace ct_31_2 := cell_below hY6 ct_31_2
            replace ct_31_3 := cell_below hY6 ct_31_3
            replace ct_31_4 := cell_below hY6 ct_31_4
            clear hY6
            cases t_34 with
            | false =>
              replace H := ite_f H
              replace H := app_hid H
              go_wp2_with fail
              go_roundg m0
              case measure => omega
              case rel => exact ⟨k0 + 1, by omega, by go_num, H, HBY6⟩
            | true =>
              replace H := ite_t H
              obtain rfl := ret_hid H
              go_wp2_with fail
              go_ret
              exact ⟨rfl, HBY6.out⟩
  | true =>
    replace H := ite_t H
    obtain rfl := ret_hid H
    go_wp2_with fail
    go_ret
    exact ⟨rfl, HB.out⟩
end Go.Proofs.Ytpbbechgpgnpbaa.GiAreByKeyShadeStringiIsShadeiNameOfShade

/- loop.example/g01062/impl.AreShades as a plain function, and the contract of the program's: where the plain one has an answer, the program has it. Conditions: slices read as lists. -/
namespace Go.Proofs.Ytpbbechgpgnpbaa.GiAreShades
set_option linter.unusedVariables false
set_option linter.unusedSimpArgs false
open Go.RowKit
open Go.Proofs.Ytpbbechgpgnpbaa.Rowed Go.Proofs.Ytpbbechgpgnpbaa.Turn Go.Proofs.Ytpbbechgpgnpbaa.Aid Go.Proofs.Ytpbbechgpgnpbaa.GoP Go.Proofs.Ytpbbechgpgnpbaa.GoM

def P (list : (List Go.Proofs.Ytpbbechgpgnpbaa.PShade.Shade)) : Option (Bool) :=
  Option.bind (Go.Proofs.Ytpbbechgpgnpbaa.GiAreByKeyShadeStringiIsShadeiNameOfShade.P list 12) fun (t_2 : Bool) =>
  some t_2

set_option maxRecDepth 100000 in
set_option maxHeartbeats 2000000 in
theorem C (list : (List Go.Proofs.Ytpbbechgpgnpbaa.PShade.Shade)) (A0 : Option Addr) (c0 : Nat)  (w : World) (M0 : Hid (Cells w 5 A0 list.length (Go.Proofs.Ytpbbechgpgnpbaa.PShade.flat list))) (N0 : Hid (list.length ≤ 9223372036854775807))  {r : Bool} (H : Hid (P list = some r)) :
    Calls Try.prog 22 #[.slice A0 list.length c0] w (Gives (.bool r) w) := by
  have HB := Lib.hid (Below.refl w.heap.size w)
  unfold P at H
  have N0o := N0.out
  go_enter Try.func22, Try.ntmps22
  replace H := bind_hid H
  obtain ⟨t_2, qt_2, H⟩ := H
  go_wp2_with fail
  go_at_call 61
  refine (Go.Proofs.Ytpbbechgpgnpbaa.GiAreByKeyShadeStringiIsShadeiNameOfShade.C (list) (12) A0 c0 _   (Lib.hid (Cells.below M0.out HB.out)) N0 qt_2).mono ?_
  rintro e_t_2 wt_2 ⟨rfl, bt_2⟩
  have HBwt_2 := Lib.hid (Below.step HB.out bt_2)
  clear bt_2
  obtain rfl := ret_hid H
  go_wp2_with fail
  go_ret
  exact ⟨rfl, HBwt_2.out⟩
end Go.Proofs.Ytpbbechgpgnpbaa.GiAreShades

/- loop.example/g01062/impl.onCircle as a plain function, and the contract of the program's: where the plain one has an answer, the program has it. Conditions: slices read as lists. -/
namespace Go.Proofs.Ytpbbechgpgnpbaa.GiOnCircle
set_option linter.unusedVariables false
set_option linter.unusedSimpArgs false
open Go.RowKit
open Go.Proofs.Ytpbbechgpgnpbaa.Rowed Go.Proofs.Ytpbbechgpgnpbaa.Turn Go.Proofs.Ytpbbechgpgnpbaa.Aid Go.Proofs.Ytpbbechgpgnpbaa.GoP Go.Proofs.Ytpbbechgpgnpbaa.GoM

def P (n_0 : Int) : Option (Int) :=
  letK (IntKind.i64.wrap (n_0 + 360)) fun (t_2 : Int) =>
  letK (Int.tmod t_2 360) fun (t_3 : Int) =>
  some t_3

set_option maxRecDepth 100000 in
set_option maxHeartbeats 2000000 in
theorem C (n_0 : Int)   (w : World)   {r : Int} (H : Hid (P n_0 = some r)) :
    Calls Try.prog 92 #[.int .i64 n_0] w (Gives (.int .i64 r) w) := by
  have HB := Lib.hid (Below.refl w.heap.size w)
  unfold P at H
  go_enter Try.func92, Try.ntmps92
  replace H := let_hid H
  obtain ⟨t_2, ht_2, H⟩ := H
  replace H := let_hid H
  obtain ⟨t_3, ht_3, H⟩ := H
  obtain rfl := ret_hid H
  go_wp2_with fail
  go_ret
  exact ⟨rfl, HB.out⟩

set_option maxRecDepth 100000 in
set_option maxHeartbeats 2000000 in
theorem C0 (n_0 : Int)   (w : World)   {r : Int} (H : Hid (P n_0 = some r)) :
    Calls Try.prog 92 #[.int .i64 n_0] w (fun e w'' => e = .returned (.int .i64 r) ∧ w'' = w) := by
  have HB := Lib.hid (Below.refl w.heap.size w)
  unfold P at H
  go_enter Try.func92, Try.ntmps92
  replace H := let_hid H
  obtain ⟨t_2, ht_2, H⟩ := H
  replace H := let_hid H
  obtain ⟨t_3, ht_3, H⟩ := H
  obtain rfl := ret_hid H
  go_wp2_with fail
  go_ret
  exact ⟨rfl, rfl⟩
end Go.Proofs.Ytpbbechgpgnpbaa.GiOnCircle

/- loop.example/g01062/impl.upwards as a plain function, and the contract of the program's: where the plain one has an answer, the program has it. Conditions: slices read as lists. -/
namespace Go.Proofs.Ytpbbechgpgnpbaa.GiUpwards
set_option linter.unusedVariables false
set_option linter.unusedSimpArgs false
open Go.RowKit
open Go.Proofs.Ytpbbechgpgnpbaa.Rowed Go.Proofs.Ytpbbechgpgnpbaa.Turn Go.Proofs.Ytpbbechgpgnpbaa.Aid Go.Proofs.Ytpbbechgpgnpbaa.GoP Go.Proofs.Ytpbbechgpgnpbaa.GoM

def P (a : Int) (b : Int) : Option (Int) :=
  letK (IntKind.i64.wrap (b - a)) fun (t_3 : Int) =>
  Option.bind (Go.Proofs.Ytpbbechgpgnpbaa.GiOnCircle.P t_3) fun (t_4 : Int) =>
  some t_4

set_option maxRecDepth 100000 in
set_option maxHeartbeats 2000000 in
theorem C (a : Int) (b : Int)   (w : World)   {r : Int} (H : Hid (P a b = some r)) :
    Calls Try.prog 91 #[.int .i64 a, .int .i64 b] w (Gives (.int .i64 r) w) := by
  have HB := Lib.hid (Below.refl w.heap.size w)
  unfold P at H
  go_enter Try.func91, Try.ntmps91
  replace H := let_hid H
  obtain ⟨t_3, ht_3, H⟩ := H
  replace H := bind_hid H
  obtain ⟨t_4, qt_4, H⟩ := H
  go_wp2_with fail
  go_at_call 92
  refine (Go.Proofs.Ytpbbechgpgnpbaa.GiOnCircle.C (t_3)  _    qt_4).mono ?_
  rintro e_t_4 wt_4 ⟨rfl, bt_4⟩
  have HBwt_4 := Lib.hid (Below.step HB.out bt_4)
  clear bt_4
  obtain rfl := ret_hid H
  go_wp2_with fail
  go_ret
  exact ⟨rfl, HBwt_4.out⟩
end Go.Proofs.Ytpbbechgpgnpbaa.GiUpwards

/- loop.example/g01062/impl.hueDistance as a plain function, and the contract of the program's: where the plain one has an answer, the program has it. Conditions: slices read as lists. -/
namespace Go.Proofs.Ytpbbechgpgnpbaa.GiLoHueDistance
set_option linter.unusedVariables false
set_option linter.unusedSimpArgs false
open Go.RowKit
open Go.Proofs.Ytpbbechgpgnpbaa.Rowed Go.Proofs.Ytpbbechgpgnpbaa.Turn Go.Proofs.Ytpbbechgpgnpbaa.Aid Go.Proofs.Ytpbbechgpgnpbaa.GoP Go.Proofs.Ytpbbechgpgnpbaa.GoM

def P (a : Int) (b : Int) : Option (Int) :=
  Option.bind (Go.Proofs.Ytpbbechgpgnpbaa.GiUpwards.P a b) fun (t_3 : Int) =>
  Option.bind (Go.Proofs.Ytpbbechgpgnpbaa.GiUpwards.P b a) fun (t_6 : Int) =>
  letK (min t_3 t_6) fun (t_7 : Int) =>
  some t_7

set_option maxRecDepth 100000 in
set_option maxHeartbeats 2000000 in
theorem C (a : Int) (b : Int)   (w : World)   {r : Int} (H : Hid (P a b = some r)) :
    Calls Try.prog 66 #[.int .i64 a, .int .i64 b] w (Gives (.int .i64 r) w) := by
  have HB := Lib.hid (Below.refl w.heap.size w)
  unfold P at H
  go_enter Try.func66, Try.ntmps66
  replace H := bind_hid H
  obtain ⟨t_3, qt_3, H⟩ := H
  go_wp2_with fail
  go_at_call 91
  refine (Go.Proofs.Ytpbbechgpgnpbaa.GiUpwards.C (a) (b)  _    qt_3).mono ?_
  rintro e_t_3 wt_3 ⟨rfl, bt_3⟩
  have HBwt_3 := Lib.hid (Below.step HB.out bt_3)
  clear bt_3
  replace H := bind_hid H
  obtain ⟨t_6, qt_6, H⟩ := H
  go_wp2_with fail
  go_at_call 91
  refine (Go.Proofs.Ytpbbechgpgnpbaa.GiUpwards.C (b) (a)  _    qt_6).mono ?_
  rintro e_t_6 wt_6 ⟨rfl, bt_6⟩
  have HBwt_6 := Lib.hid (Below.step HBwt_3.out bt_6)
  clear bt_6
  replace H := let_hid H
  obtain ⟨t_7, ht_7, H⟩ := H
  obtain rfl := ret_hid H
  go_wp2_with fail
  go_ret
  exact ⟨rfl, HBwt_6.out⟩
end Go.Proofs.Ytpbbechgpgnpbaa.GiLoHueDistance

/- loop.example/g01062/impl.overlaps as a plain function, and the contract of the program's: where the plain one has an answer, the program has it. Conditions: slices read as lists. -/
namespace Go.Proofs.Ytpbbechgpgnpbaa.GiOverlaps
set_option linter.unusedVariables false
set_option linter.unusedSimpArgs false
open Go.RowKit
open Go.Proofs.Ytpbbechgpgnpbaa.Rowed Go.Proofs.Ytpbbechgpgnpbaa.Turn Go.Proofs.Ytpbbechgpgnpbaa.Aid Go.Proofs.Ytpbbechgpgnpbaa.GoP Go.Proofs.Ytpbbechgpgnpbaa.GoM

def P (x : Go.Proofs.Ytpbbechgpgnpbaa.PShade.Shade) (y : Go.Proofs.Ytpbbechgpgnpbaa.PShade.Shade) : Option (Bool) :=
  unShade x fun (x_name : ByteArray) (x_hue : Int) (x_width : Int) (x_dark : Int) (x_light : Int) =>
  unShade y fun (y_name : ByteArray) (y_hue : Int) (y_width : Int) (y_dark : Int) (y_light : Int) =>
  Option.bind (Go.Proofs.Ytpbbechgpgnpbaa.GiLoHueDistance.P x_hue y_hue) fun (t_7 : Int) =>
  letK (IntKind.i64.wrap (x_width + y_width)) fun (t_12 : Int) =>
  letK (decide (t_7 ≤ t_12)) fun (t_13 : Bool) =>
  joinK (fun (t_26 : Bool) =>
  some t_26) fun jt_26 => iteK t_13 (letK (max x_dark y_dark) fun (t_19 : Int) =>
  letK (min x_light y_light) fun (t_24 : Int) =>
  letK (decide (t_19 ≤ t_24)) fun (t_25 : Bool) =>
  appK jt_26 t_25) (appK jt_26 false)

set_option maxRecDepth 100000 in
set_option maxHeartbeats 2000000 in
theorem C (x : Go.Proofs.Ytpbbechgpgnpbaa.PShade.Shade) (y : Go.Proofs.Ytpbbechgpgnpbaa.PShade.Shade)   (w : World)   {r : Bool} (H : Hid (P x y = some r)) :
    Calls Try.prog 82 #[x.val, y.val] w (Gives (.bool r) w) := by
  have HB := Lib.hid (Below.refl w.heap.size w)
  unfold P at H
  obtain ⟨x_name, x_hue, x_width, x_dark, x_light⟩ := x
  replace H := unShade_hid H
  obtain ⟨y_name, y_hue, y_width, y_dark, y_light⟩ := y
  replace H := unShade_hid H
  unfold Go.Proofs.Ytpbbechgpgnpbaa.PShade.Shade.val
  go_enter Try.func82, Try.ntmps82
  obtain ⟨w_x_0, hw_x_0⟩ : ∃ x, w.alloc (.cells #[.string x_name, .int .i64 x_hue, .int .i64 x_width, .int .i64 x_dark, .int .i64 x_light] 26) = x := ⟨_, rfl⟩
  have bw_x_0 : Below w.heap.size w w_x_0 := by rw [← hw_x_0]; exact (Below.refl _ _).alloc (Nat.le_refl _) _
  have HBw_x_0 := Lib.hid (Below.step HB.out bw_x_0)
  clear bw_x_0
  have kx_0_0 : w_x_0.cell? ⟨w.heap.size, 0, none⟩ = some (.string x_name) := by rw [← hw_x_0]; exact box_new _ _ _ 0 _ rfl
  have kx_0_1 : w_x_0.cell? ⟨w.heap.size, 1, none⟩ = some (.int .i64 x_hue) := by rw [← hw_x_0]; exact box_new _ _ _ 1 _ rfl
  have kx_0_2 : w_x_0.cell? ⟨w.heap.size, 2, none⟩ = some (.int .i64 x_width) := by rw [← hw_x_0]; exact box_new _ _ _ 2 _ rfl
  have kx_0_3 : w_x_0.cell? ⟨w.heap.size, 3, none⟩ = some (.int .i64 x_dark) := by rw [← hw_x_0]; exact box_new _ _ _ 3 _ rfl
  have kx_0_4 : w_x_0.cell? ⟨w.heap.size, 4, none⟩ = some (.int .i64 x_light) := by rw [← hw_x_0]; exact box_new _ _ _ 4 _ rfl
  obtain ⟨w_y_1, hw_y_1⟩ : ∃ x, w_x_0.alloc (.cells #[.string y_name, .int .i64 y_hue, .int .i64 y_width, .int .i64 y_dark, .int .i64 y_light] 26) = x := ⟨_, rfl⟩
  have bw_y_1 : Below w_x_0.heap.size w_x_0 w_y_1 := by rw [← hw_y_1]; exact (Below.refl _ _).alloc (Nat.le_refl _) _
  have HBw_y_1 := Lib.hid (Below.step HBw_x_0.out bw_y_1)
  have kx_0_0__142 := cell_below bw_y_1 kx_0_0
  have kx_0_1__143 := cell_below bw_y_1 kx_0_1
  have kx_0_2__144 := cell_below bw_y_1 kx_0_2
  have kx_0_3__145 := cell_below bw_y_1 kx_0_3
  have kx_0_4__146 := cell_below bw_y_1 kx_0_4
  clear bw_y_1
  have ky_1_0 : w_y_1.cell? ⟨w_x_0.heap.size, 0, none⟩ = some (.string y_name) := by rw [← hw_y_1]; exact box_new _ _ _ 0 _ rfl
  have ky_1_1 : w_y_1.cell? ⟨w_x_0.heap.size, 1, none⟩ = some (.int .i64 y_hue) := by rw [← hw_y_1]; exact box_new _ _ _ 1 _ rfl
  have ky_1_2 : w_y_1.cell? ⟨w_x_0.heap.size, 2, none⟩ = some (.int .i64 y_width) := by rw [← hw_y_1]; exact box_new _ _ _ 2 _ rfl
  have ky_1_3 : w_y_1.cell? ⟨w_x_0.heap.size, 3, none⟩ = some (.int .i64 y_dark) := by rw [← hw_y_1]; exact box_new _ _ _ 3 _ rfl
  have ky_1_4 : w_y_1.cell? ⟨w_x_0.heap.size, 4, none⟩ = some (.int .i64 y_light) := by rw [← hw_y_1]; exact box_new _ _ _ 4 _ rfl
  go_wp2_with fail
  clear kx_0_0 kx_0_1 kx_0_2 kx_0_3 kx_0_4
  have Hkx_0_0__142 := Lib.hid kx_0_0__142
  replace kx_0_0__142 := cell_regrown kx_0_0__142
  have Hkx_0_1__143 := Lib.hid kx_0_1__143
  replace kx_0_1__143 := cell_regrown kx_0_1__143
  have Hkx_0_2__144 := Lib.hid kx_0_2__144
  replace kx_0_2__144 := cell_regrown kx_0_2__144
  have Hkx_0_3__145 := Lib.hid kx_0_3__145
  replace kx_0_3__145 := cell_regrown kx_0_3__145
  have Hkx_0_4__146 := Lib.hid kx_0_4__146
  replace kx_0_4__146 := cell_regrown kx_0_4__146
  have Hky_1_0 := Lib.hid ky_1_0
  replace ky_1_0 := cell_regrown ky_1_0
  have Hky_1_1 := Lib.hid ky_1_1
  replace ky_1_1 := cell_regrown ky_1_1
  have Hky_1_2 := Lib.hid ky_1_2
  replace ky_1_2 := cell_regrown ky_1_2
  have Hky_1_3 := Lib.hid ky_1_3
  replace ky_1_3 := cell_regrown ky_1_3
  have Hky_1_4 := Lib.hid ky_1_4
  replace ky_1_4 := cell_regrown ky_1_4
  replace H := bind_hid H
  obtain ⟨t_7, qt_7, H⟩ := H
  have nt_7 : ∀ d os, Calls Try.prog 66 #[.int .i64 x_hue, .int .i64 y_hue] (Go.Sort.grow (redrawn w_y_1 d) os) fun e w'' => e = .returned (.int .i64 t_7) ∧ ∃ p : Regrown, w'' = Go.Sort.grow (redrawn w_y_1 p.d) p.os := fun d os => Calls.regrown_of (Go.Proofs.Ytpbbechgpgnpbaa.GiLoHueDistance.C (x_hue) (y_hue)  _    qt_7)
  replace H := let_hid H
  obtain ⟨t_12, ht_12, H⟩ := H
  replace H := let_hid H
  obtain ⟨t_13, ht_13, H⟩ := H
  replace H := join_hid H
  cases t_13 with
  | false =>
    replace H := ite_f H
    replace H := app_hid H
    refine wp_region_quiet_below (by kernel_rfl) (by kernel_rfl) ?_
    repeat (go_big_quiet_step (first | (go_at_call 66; exact nt_7 _ _)))
    refine wpQuiet_nil ?_
    intro Y1 hY1
    replace hY1 := below_class hY1
    clear nt_7
    replace kx_0_0__142 := Hkx_0_0__142.out
    clear Hkx_0_0__142
    replace kx_0_1__143 := Hkx_0_1__143.out
    clear Hkx_0_1__143
    replace kx_0_2__144 := Hkx_0_2__144.out
    clear Hkx_0_2__144
    replace kx_0_3__145 := Hkx_0_3__145.out
    clear Hkx_0_3__145
    replace kx_0_4__146 := Hkx_0_4__146.out
    clear Hkx_0_4__146
    replace ky_1_0 := Hky_1_0.out
    clear Hky_1_0
    replace ky_1_1 := Hky_1_1.out
    clear Hky_1_1
    replace ky_1_2 := Hky_1_2.out
    clear Hky_1_2
    replace ky_1_3 := Hky_1_3.out
    clear Hky_1_3
    replace ky_1_4 := Hky_1_4.out
    clear Hky_1_4
    have HBY1 := Lib.hid (Below.step HBw_y_1.out hY1)
    replace kx_0_0__142 := cell_below hY1 kx_0_0__142
    replace kx_0_1__143 := cell_below hY1 kx_0_1__143
    replace kx_0_2__144 := cell_below hY1 kx_0_2__144
    replace kx_0_3__145 := cell_below hY1 kx_0_3__145
    replace kx_0_4__146 := cell_below hY1 kx_0_4__146
    replace ky_1_0 := cell_below hY1 ky_1_0
    replace ky_1_1 := cell_below hY1 ky_1_1
    replace ky_1_2 := cell_below hY1 ky_1_2
    replace ky_1_3 := cell_below hY1 ky_1_3
    replace ky_1_4 := cell_below hY1 ky_1_4
    clear hY1
    obtain rfl := ret_hid H
    go_wp2_with fail
    go_ret
    exact ⟨rfl, HBY1.out⟩
  | true =>
    replace H := ite_t H
    replace H := let_hid H
    obtain ⟨t_19, ht_19, H⟩ := H
    replace H := let_hid H
    obtain ⟨t_24, ht_24, H⟩ := H
    replace H := let_hid H
    obtain ⟨t_25, ht_25, H⟩ := H
    replace H := app_hid H
    refine wp_region_quiet_below (by kernel_rfl) (by kernel_rfl) ?_
    repeat (go_big_quiet_step (first | (go_at_call 66; exact nt_7 _ _)))
    refine wpQuiet_nil ?_
    intro Y1 hY1
    replace hY1 := below_class hY1
    clear nt_7
    replace kx_0_0__142 := Hkx_0_0__142.out
    clear Hkx_0_0__142
    replace kx_0_1__143 := Hkx_0_1__143.out
    clear Hkx_0_1__143
    replace kx_0_2__144 := Hkx_0_2__144.out
    clear Hkx_0_2__144
    replace kx_0_3__145 := Hkx_0_3__145.out
    clear Hkx_0_3__145
    replace kx_0_4__146 := Hkx_0_4__146.out
    clear Hkx_0_4__146
    replace ky_1_0 := Hky_1_0.out
    clear Hky_1_0
    replace ky_1_1 := Hky_1_1.out
    clear Hky_1_1
    replace ky_1_2 := Hky_1_2.out
    clear Hky_1_2
    replace ky_1_3 := Hky_1_3.out
    clear Hky_1_3
    replace ky_1_4 := Hky_1_4.out
    clear Hky_1_4
    have HBY1 := Lib.hid (Below.step HBw_y_1.out hY1)
    replace kx_0_0__142 := cell_below hY1 kx_0_0__142
    replace kx_0_1__143 := cell_below hY1 kx_0_1__143
    replace kx_0_2__144 := cell_below hY1 kx_0_2__144
    replace kx_0_3__145 := cell_below hY1 kx_0_3__145
    replace kx_0_4__146 := cell_below hY1 kx_0_4__146
    replace ky_1_0 := cell_below hY1 ky_1_0
    replace ky_1_1 := cell_below hY1 ky_1_1
    replace ky_1_2 := cell_below hY1 ky_1_2
    replace ky_1_3 := cell_below hY1 ky_1_3
    replace ky_1_4 := cell_below hY1 ky_1_4
    clear hY1
    obtain rfl := ret_hid H
    go_wp2_with fail
    go_ret
    exact ⟨rfl, HBY1.out⟩
end Go.Proofs.Ytpbbechgpgnpbaa.GiOverlaps

/- loop.example/g01062/impl.OverlapPairs as a plain function, and the contract of the program's: where the plain one has an answer, the program has it. Conditions: slices read as lists. -/
namespace Go.Proofs.Ytpbbechgpgnpbaa.GiOverlapPairs
set_option linter.unusedVariables false
set_option linter.unusedSimpArgs false
open Go.RowKit
open Go.Proofs.Ytpbbechgpgnpbaa.Rowed Go.Proofs.Ytpbbechgpgnpbaa.Turn Go.Proofs.Ytpbbechgpgnpbaa.Aid Go.Proofs.Ytpbbechgpgnpbaa.GoP Go.Proofs.Ytpbbechgpgnpbaa.GoM

def l1 (t_15_name : ByteArray) (t_15_hue : Int) (t_15_width : Int) (t_15_dark : Int) (t_15_light : Int) (t_23 : (List Go.Proofs.Ytpbbechgpgnpbaa.PShade.Shade)) (k1 : Nat) (s : (List (List ByteArray))) (nx1 bk1 : (List (List ByteArray)) → Option ((List (List ByteArray)) × Bool)) : Option ((List (List ByteArray)) × Bool) :=
  letK s fun pairs_4l1 =>
  Option.bind (idx t_23 (k1 : Int)) fun (yt_27 : Go.Proofs.Ytpbbechgpgnpbaa.PShade.Shade) =>
  unShade yt_27 fun (t_27_name : ByteArray) (t_27_hue : Int) (t_27_width : Int) (t_27_dark : Int) (t_27_light : Int) =>
  Option.bind (Go.Proofs.Ytpbbechgpgnpbaa.GiOverlaps.P (Go.Proofs.Ytpbbechgpgnpbaa.PShade.Shade.mk t_15_name t_15_hue t_15_width t_15_dark t_15_light) (Go.Proofs.Ytpbbechgpgnpbaa.PShade.Shade.mk t_27_name t_27_hue t_27_width t_27_dark t_27_light)) fun (t_33 : Bool) =>
  iteK t_33
  (letK ([t_15_name, t_27_name]) fun (t_39 : (List ByteArray)) =>
  guardK (pairs_4l1.length ≤ 1099511627776) <|
  letK (pairs_4l1 ++ [t_39]) fun (t_41 : (List (List ByteArray))) =>
  appK nx1 (t_41))
  (appK nx1 (pairs_4l1))

def e1 (nx0 : ((List (List ByteArray))) → Option ((List (List ByteArray)) × Bool)) (s : (List (List ByteArray))) : Option ((List (List ByteArray)) × Bool) :=
  letK s fun pairs_4l1 =>
  appK nx0 (pairs_4l1)

def l0 (list : (List Go.Proofs.Ytpbbechgpgnpbaa.PShade.Shade)) (k0 : Nat) (s : (List (List ByteArray))) (nx0 bk0 : (List (List ByteArray)) → Option ((List (List ByteArray)) × Bool)) : Option ((List (List ByteArray)) × Bool) :=
  letK s fun pairs_4l0 =>
  Option.bind (idx list (k0 : Int)) fun (yt_15 : Go.Proofs.Ytpbbechgpgnpbaa.PShade.Shade) =>
  unShade yt_15 fun (t_15_name : ByteArray) (t_15_hue : Int) (t_15_width : Int) (t_15_dark : Int) (t_15_light : Int) =>
  letK (IntKind.i64.wrap ((k0 : Int) + 1)) fun (t_22 : Int) =>
  guardK ((0 : Int) ≤ t_22 ∧ (t_22 : Int) ≤ (list.length : Int)) <|
  letK (List.drop (Int.toNat t_22) list) fun (t_23 : (List Go.Proofs.Ytpbbechgpgnpbaa.PShade.Shade)) =>
  cntK (l1 t_15_name t_15_hue t_15_width t_15_dark t_15_light t_23) (t_23.length) 0 (pairs_4l0) (e1 nx0)

def e0  (s : (List (List ByteArray))) : Option ((List (List ByteArray)) × Bool) :=
  letK s fun pairs_4l0 =>
  some (pairs_4l0, true)

def P (list : (List Go.Proofs.Ytpbbechgpgnpbaa.PShade.Shade)) : Option ((List (List ByteArray)) × Bool) :=
  Option.bind (Go.Proofs.Ytpbbechgpgnpbaa.GiAreShades.P list) fun (t_3 : Bool) =>
  letK (!t_3) fun (t_4 : Bool) =>
  iteK t_4
  (some (([] : List (List ByteArray)), false))
  (cntK (l0 list) (list.length) 0 (([] : List (List ByteArray))) (e0 ))

set_option maxRecDepth 100000 in
set_option maxHeartbeats 2000000 in
theorem C (list : (List Go.Proofs.Ytpbbechgpgnpbaa.PShade.Shade)) (A0 : Option Addr) (c0 : Nat)  (w : World) (M0 : Hid (Cells w 5 A0 list.length (Go.Proofs.Ytpbbechgpgnpbaa.PShade.flat list))) (N0 : Hid (list.length ≤ 9223372036854775807)) (Q0 : Hid (Room A0 list.length c0))  {r0 : (List (List ByteArray))} {r1 : Bool} (H : Hid (P list = some (r0, r1))) :
    Calls Try.prog 37 #[.slice A0 list.length c0] w (fun e w' => ∃ A_r0 c_r0, e = .returned (.tuple #[.slice A_r0 r0.length c_r0, .bool r1]) ∧ (∃ B_, Go.Proofs.Ytpbbechgpgnpbaa.GoN.OwnNest w' (w.heap.size) 39 9 1 (fun z_ => z_.map Value.string) A_r0 c_r0 r0 B_) ∧ Below w.heap.size w w') := by
  have HB := Lib.hid (Below.refl w.heap.size w)
  unfold P at H
  have N0o := N0.out
  obtain ⟨i0_39, hi_39, hz0_39, hz1_39, hz2_39⟩ := Aid.info_parts (P := Try.prog) (T := 39) (z := .slice none 0 0) (s := 1) (b := 24) (by kernel_rfl)
  obtain ⟨i0_26, hi_26, hz0_26, hz1_26, hz2_26⟩ := Aid.info_parts (P := Try.prog) (T := 26) (z := .agg #[.string ByteArray.empty, .int .i64 0, .int .i64 0, .int .i64 0, .int .i64 0]) (s := 5) (b := 48) (by kernel_rfl)
  go_enter Try.func37, Try.ntmps37
  replace H := bind_hid H
  obtain ⟨t_3, qt_3, H⟩ := H
  go_wp2_with fail
  go_at_call 22
  refine (Go.Proofs.Ytpbbechgpgnpbaa.GiAreShades.C (list) A0 c0 _   (Lib.hid (Cells.below M0.out HB.out)) N0 qt_3).mono ?_
  rintro e_t_3 wt_3 ⟨rfl, bt_3⟩
  have HBwt_3 := Lib.hid (Below.step HB.out bt_3)
  clear bt_3
  cases t_3 with
  | false =>
    replace H := let_hid H
    obtain ⟨t_4, ht_4, H⟩ := H
    obtain rfl : t_4 = true := ht_4.symm
    replace H := ite_t H
    obtain ⟨w_t_5, hw_t_5⟩ : ∃ x, wt_3.alloc (.cells #[] 39) = x := ⟨_, rfl⟩
    have bw_t_5 : Below wt_3.heap.size wt_3 w_t_5 := by rw [← hw_t_5]; exact (Below.refl _ _).alloc (Nat.le_refl _) _
    have Ot_5 : Hid (Go.Proofs.Ytpbbechgpgnpbaa.GoN.OwnNest w_t_5 (w.heap.size) 39 9 1 (fun z_ => z_.map Value.string) (some ⟨wt_3.heap.size, 0, none⟩) 0 ([] : List (List ByteArray)) [some ⟨wt_3.heap.size, 0, none⟩]) := Lib.hid (by rw [← hw_t_5]; exact Go.Proofs.Ytpbbechgpgnpbaa.GoN.nest_empty HBwt_3.out.size)
    have HBw_t_5 := Lib.hid (Below.step HBwt_3.out bw_t_5)
    clear bw_t_5
    cases ret_hid H
    go_wp2_with fail
    go_ret2
    exact ⟨(some ⟨wt_3.heap.size, 0, none⟩), 0, rfl, ⟨_, Ot_5.out⟩, HBw_t_5.out⟩
  | true =>
    replace H := let_hid H
    obtain ⟨t_4, ht_4, H⟩ := H
    obtain rfl : t_4 = false := ht_4.symm
    replace H := ite_f H
    obtain ⟨w_t_8, hw_t_8⟩ : ∃ x, wt_3.alloc (.cells #[] 39) = x := ⟨_, rfl⟩
    have bw_t_8 : Below wt_3.heap.size wt_3 w_t_8 := by rw [← hw_t_8]; exact (Below.refl _ _).alloc (Nat.le_refl _) _
    have Ot_8 : Hid (Go.Proofs.Ytpbbechgpgnpbaa.GoN.OwnNest w_t_8 (w.heap.size) 39 9 1 (fun z_ => z_.map Value.string) (some ⟨wt_3.heap.size, 0, none⟩) 0 ([] : List (List ByteArray)) [some ⟨wt_3.heap.size, 0, none⟩]) := Lib.hid (by rw [← hw_t_8]; exact Go.Proofs.Ytpbbechgpgnpbaa.GoN.nest_empty HBwt_3.out.size)
    have HBw_t_8 := Lib.hid (Below.step HBwt_3.out bw_t_8)
    clear bw_t_8
    go_wp2_with fail
    go_loopg [16, 4] (list.length) (fun m_ v16_ v4_ wr => ∃ (k0 : Nat) (pairs_4l0 : (List (List ByteArray))) (Apairs_4l0 : Option Addr) (cpairs_4l0 : Nat) (Bpairs_4l0 : List (Option Addr)), k0 + m_ = list.length ∧ v16_ = .int .i64 (k0 : Int) ∧ v4_ = .slice Apairs_4l0 pairs_4l0.length cpairs_4l0 ∧ Hid (cntK (l0 list) m_ k0 (pairs_4l0) (e0 ) = some (r0, r1)) ∧ Hid (Below w.heap.size w wr) ∧ Hid (Go.Proofs.Ytpbbechgpgnpbaa.GoN.OwnNest wr (w.heap.size) 39 9 1 (fun z_ => z_.map Value.string) Apairs_4l0 cpairs_4l0 pairs_4l0 Bpairs_4l0))
    case atStart => exact ⟨0, _, _, _, _, by omega, rfl, rfl, H, HBw_t_8, Ot_8⟩
    case round =>
      obtain ⟨k0, pairs_4l0, Apairs_4l0, cpairs_4l0, Bpairs_4l0, hkm0, rfl, rfl, H, HBwr0, Opairs_4l0⟩ := hrel
      rename World => wr0
      cases gk with
      | zero =>
        obtain rfl : k0 = list.length := by omega
        have hc0 : decide (((list.length : Nat) : Int) < ((list.length : Nat) : Int)) = false := by simp
        replace H := cnt_zero H
        unfold e0 at H
        replace H := let_hid H
        obtain ⟨_, rfl, H⟩ := H
        cases ret_hid H
        go_wp2_with fail
        go_ret2
        exact ⟨Apairs_4l0, cpairs_4l0, rfl, ⟨_, Opairs_4l0.out⟩, HBwr0.out⟩
      | succ m0 =>
        have hlt0 : k0 < list.length := by omega
        have hc0 : decide ((k0 : Int) < ((list.length : Nat) : Int)) = true := by simp; omega
        replace H := cnt_succ H
        unfold l0 at H
        replace H := let_hid H
        obtain ⟨_, rfl, H⟩ := H
        replace H := idx_hid H
        obtain ⟨nt_15, yt_15, et_15, lt_15, gt_15, H⟩ := H
        obtain rfl : k0 = nt_15 := by omega
        clear et_15
        obtain ⟨t_15_name, t_15_hue, t_15_width, t_15_dark, t_15_light⟩ := yt_15
        replace H := unShade_hid H
        obtain ⟨ab_t_15, ao_t_15, zt_15, At_15, z_t_15, ct_15_0, ct_15_1, ct_15_2, ct_15_3, ct_15_4⟩ := Go.Proofs.Ytpbbechgpgnpbaa.OShade.at_ M0.out lt_15
        obtain rfl := Option.some.inj (gt_15.out.symm.trans z_t_15)
        subst At_15
        have ltt_15 := cell_lt ct_15_0
        replace ct_15_0 := cell_below HBwr0.out ct_15_0
        replace ct_15_1 := cell_below HBwr0.out ct_15_1
        replace ct_15_2 := cell_below HBwr0.out ct_15_2
        replace ct_15_3 := cell_below HBwr0.out ct_15_3
        replace ct_15_4 := cell_below HBwr0.out ct_15_4
        clear z_t_15
        have b0t_15 : (0 : Int) ≤ (k0 : Int) := by omega
        have b1t_15 : (k0 : Int) < ((list.length : Nat) : Int) := by omega
        have b2t_15 : ((k0 : Int)).toNat = k0 := by omega
        obtain ⟨w_x_17, hw_x_17⟩ : ∃ x, wr0.alloc (.cells #[.string t_15_name, .int .i64 t_15_hue, .int .i64 t_15_width, .int .i64 t_15_dark, .int .i64 t_15_light] 26) = x := ⟨_, rfl⟩
        have bw_x_17 : Below wr0.heap.size wr0 w_x_17 := by rw [← hw_x_17]; exact (Below.refl _ _).alloc (Nat.le_refl _) _
        have Dx_17_pairs_4l0 := Lib.hid (Go.Proofs.Ytpbbechgpgnpbaa.GoN.nest_fresh Opairs_4l0.out)
        have HBw_x_17 := Lib.hid (Below.step HBwr0.out bw_x_17)
        have ct_15_0__147 := cell_below bw_x_17 ct_15_0
        have ct_15_1__148 := cell_below bw_x_17 ct_15_1
        have ct_15_2__149 := cell_below bw_x_17 ct_15_2
        have ct_15_3__150 := cell_below bw_x_17 ct_15_3
        have ct_15_4__151 := cell_below bw_x_17 ct_15_4
        replace Opairs_4l0 := Lib.hid (Go.Proofs.Ytpbbechgpgnpbaa.GoN.nest_below Opairs_4l0.out bw_x_17)
        clear bw_x_17
        have kx_17_0 : w_x_17.cell? ⟨wr0.heap.size, 0, none⟩ = some (.string t_15_name) := by rw [← hw_x_17]; exact box_new _ _ _ 0 _ rfl
        have kx_17_1 : w_x_17.cell? ⟨wr0.heap.size, 1, none⟩ = some (.int .i64 t_15_hue) := by rw [← hw_x_17]; exact box_new _ _ _ 1 _ rfl
        have kx_17_2 : w_x_17.cell? ⟨wr0.heap.size, 2, none⟩ = some (.int .i64 t_15_width) := by rw [← hw_x_17]; exact box_new _ _ _ 2 _ rfl
        have kx_17_3 : w_x_17.cell? ⟨wr0.heap.size, 3, none⟩ = some (.int .i64 t_15_dark) := by rw [← hw_x_17]; exact box_new _ _ _ 3 _ rfl
        have kx_17_4 : w_x_17.cell? ⟨wr0.heap.size, 4, none⟩ = some (.int .i64 t_15_light) := by rw [← hw_x_17]; exact box_new _ _ _ 4 _ rfl
        replace H := let_hid H
        obtain ⟨t_22, ht_22, H⟩ := H
        replace H := guard_hid H
        obtain ⟨hl_t_23, H⟩ := H
        replace H := let_hid H
        obtain ⟨t_23, ht_23, H⟩ := H
        have dt_23 : ((Go.Proofs.Ytpbbechgpgnpbaa.PShade.flat list)).drop (Int.toNat t_22 * 5) = (Go.Proofs.Ytpbbechgpgnpbaa.PShade.flat t_23) := by
          rw [← ht_23]
          exact flat_drop Go.Proofs.Ytpbbechgpgnpbaa.PShade.Shade.cells 5 (fun _ => rfl) _ _
        have nt_23 : list.length - Int.toNat t_22 = t_23.length := by rw [← ht_23, List.length_drop]
        obtain ⟨At_23, ct_23, rt_23, Mt_23, Qt_23⟩ := slice_tail (P := Try.prog) (t := 32) (e := 26) (k := .i64) (by kernel_rfl) (by kernel_rfl) hi_26 hz1_26 M0.out Q0.out hl_t_23 nt_23 dt_23
        have Nt_23 : Hid (t_23.length ≤ 9223372036854775807) := Lib.hid (by have := N0.out; omega)
        replace Mt_23 := Lib.hid Mt_23
        replace Qt_23 := Lib.hid Qt_23
        clear dt_23 nt_23 hl_t_23
        have hht_23 := Lib.hid ht_23
        clear ht_23
        have Not_23 := Nt_23.out
        go_wp2_with fail
        clear ct_15_0 ct_15_1 ct_15_2 ct_15_3 ct_15_4
        go_loopg [26, 4] (t_23.length) (fun m_ v26_ v4_ wr => ∃ (k1 : Nat) (pairs_4l1 : (List (List ByteArray))) (Apairs_4l1 : Option Addr) (cpairs_4l1 : Nat) (Bpairs_4l1 : List (Option Addr)), k1 + m_ = t_23.length ∧ v26_ = .int .i64 (k1 : Int) ∧ v4_ = .slice Apairs_4l1 pairs_4l1.length cpairs_4l1 ∧ Hid (cntK (l1 t_15_name t_15_hue t_15_width t_15_dark t_15_light t_23) m_ k1 (pairs_4l1) (e1 (fun s' => cntK (l0 list) m0 (k0 + 1) s' (e0 ))) = some (r0, r1)) ∧ Hid (Below w.heap.size w wr) ∧ wr.cell? ⟨wr0.heap.size, 0, none⟩ = some (.string t_15_name) ∧ wr.cell? ⟨wr0.heap.size, 1, none⟩ = some (.int .i64 t_15_hue) ∧ wr.cell? ⟨wr0.heap.size, 2, none⟩ = some (.int .i64 t_15_width) ∧ wr.cell? ⟨wr0.heap.size, 3, none⟩ = some (.int .i64 t_15_dark) ∧ wr.cell? ⟨wr0.heap.size, 4, none⟩ = some (.int .i64 t_15_light) ∧ Hid (Go.Proofs.Ytpbbechgpgnpbaa.GoN.OwnNest wr (w.heap.size) 39 9 1 (fun z_ => z_.map Value.string) Apairs_4l1 cpairs_4l1 pairs_4l1 Bpairs_4l1) ∧ Hid (∀ y_ ∈ Bpairs_4l1, Apart (some ⟨wr0.heap.size, 0, none⟩) y_))
        case atStart => exact ⟨0, _, _, _, _, by omega, rfl, rfl, H, HBw_x_17, kx_17_0, kx_17_1, kx_17_2, kx_17_3, kx_17_4, Opairs_4l0, Lib.hid Dx_17_pairs_4l0.out⟩
        case round =>
          obtain ⟨k1, pairs_4l1, Apairs_4l1, cpairs_4l1, Bpairs_4l1, hkm1, rfl, rfl, H, HBwr1, kx_17_0, kx_17_1, kx_17_2, kx_17_3, kx_17_4, Opairs_4l1, Dx_17_pairs_4l1⟩ := hrel
          rename World => wr1
          cases gk with
          | zero =>
            obtain rfl : k1 = t_23.length := by omega
            have hc1 : decide (((t_23.length : Nat) : Int) < ((t_23.length : Nat) : Int)) = false := by simp
            replace H := cnt_zero H
            unfold e1 at H
            replace H := let_hid H
            obtain ⟨_, rfl, H⟩ := H
            replace H := app_hid H
            go_wp2_with fail
            have hnx0_ : t_22 ≤ (k0 : Int) + 1 ∧ (k0 : Int) + 1 ≤ t_22 := by rw [← ht_22, IntWalk.i64_in _ (by omega)]; omega
            go_roundg m0
            case measure => omega
            case rel => exact ⟨k0 + 1, _, _, _, _, by omega, by go_num, rfl, H, HBwr1, Opairs_4l1⟩
          | succ m1 =>
            have hlt1 : k1 < t_23.length := by omega
            have hc1 : decide ((k1 : Int) < ((t_23.length : Nat) : Int)) = true := by simp; omega
            replace H := cnt_succ H
            unfold l1 at H
            replace H := let_hid H
            obtain ⟨_, rfl, H⟩ := H
            replace H := idx_hid H
            obtain ⟨nt_27, yt_27, et_27, lt_27, gt_27, H⟩ := H
            obtain rfl : k1 = nt_27 := by omega
            clear et_27
            obtain ⟨t_27_name, t_27_hue, t_27_width, t_27_dark, t_27_light⟩ := yt_27
            replace H := unShade_hid H
            obtain ⟨ab_t_27, ao_t_27, zt_27, At_27, z_t_27, ct_27_0, ct_27_1, ct_27_2, ct_27_3, ct_27_4⟩ := Go.Proofs.Ytpbbechgpgnpbaa.OShade.at_ Mt_23.out lt_27
            obtain rfl := Option.some.inj (gt_27.out.symm.trans z_t_27)
            subst At_27
            have ltt_27 := cell_lt ct_27_0
            replace ct_27_0 := cell_below HBwr1.out ct_27_0
            replace ct_27_1 := cell_below HBwr1.out ct_27_1
            replace ct_27_2 := cell_below HBwr1.out ct_27_2
            replace ct_27_3 := cell_below HBwr1.out ct_27_3
            replace ct_27_4 := cell_below HBwr1.out ct_27_4
            clear z_t_27
            have b0t_27 : (0 : Int) ≤ (k1 : Int) := by omega
            have b1t_27 : (k1 : Int) < ((t_23.length : Nat) : Int) := by omega
            have b2t_27 : ((k1 : Int)).toNat = k1 := by omega
            obtain ⟨w_y_29, hw_y_29⟩ : ∃ x, wr1.alloc (.cells #[.string t_27_name, .int .i64 t_27_hue, .int .i64 t_27_width, .int .i64 t_27_dark, .int .i64 t_27_light] 26) = x := ⟨_, rfl⟩
            have bw_y_29 : Below wr1.heap.size wr1 w_y_29 := by rw [← hw_y_29]; exact (Below.refl _ _).alloc (Nat.le_refl _) _
            have Dy_29_pairs_4l1 := Lib.hid (Go.Proofs.Ytpbbechgpgnpbaa.GoN.nest_fresh Opairs_4l1.out)
            have HBw_y_29 := Lib.hid (Below.step HBwr1.out bw_y_29)
            have kx_17_0__152 := cell_below bw_y_29 kx_17_0
            have kx_17_1__153 := cell_below bw_y_29 kx_17_1
            have kx_17_2__154 := cell_below bw_y_29 kx_17_2
            have kx_17_3__155 := cell_below bw_y_29 kx_17_3
            have kx_17_4__156 := cell_below bw_y_29 kx_17_4
            have ct_27_0__157 := cell_below bw_y_29 ct_27_0
            have ct_27_1__158 := cell_below bw_y_29 ct_27_1
            have ct_27_2__159 := cell_below bw_y_29 ct_27_2
            have ct_27_3__160 := cell_below bw_y_29 ct_27_3
            have ct_27_4__161 := cell_below bw_y_29 ct_27_4
            replace Opairs_4l1 := Lib.hid (Go.Proofs.Ytpbbechgpgnpbaa.GoN.nest_below Opairs_4l1.out bw_y_29)
            clear bw_y_29
            have ky_29_0 : w_y_29.cell? ⟨wr1.heap.size, 0, none⟩ = some (.string t_27_name) := by rw [← hw_y_29]; exact box_new _ _ _ 0 _ rfl
            have ky_29_1 : w_y_29.cell? ⟨wr1.heap.size, 1, none⟩ = some (.int .i64 t_27_hue) := by rw [← hw_y_29]; exact box_new _ _ _ 1 _ rfl
            have ky_29_2 : w_y_29.cell? ⟨wr1.heap.size, 2, none⟩ = some (.int .i64 t_27_width) := by rw [← hw_y_29]; exact box_new _ _ _ 2 _ rfl
            have ky_29_3 : w_y_29.cell? ⟨wr1.heap.size, 3, none⟩ = some (.int .i64 t_27_dark) := by rw [← hw_y_29]; exact box_new _ _ _ 3 _ rfl
            have ky_29_4 : w_y_29.cell? ⟨wr1.heap.size, 4, none⟩ = some (.int .i64 t_27_light) := by rw [← hw_y_29]; exact box_new _ _ _ 4 _ rfl
            replace H := bind_hid H
            obtain ⟨t_33, qt_33, H⟩ := H
            go_wp2_with fail
            clear kx_17_0 kx_17_1 kx_17_2 kx_17_3 kx_17_4 ct_27_0 ct_27_1 ct_27_2 ct_27_3 ct_27_4
            go_at_call 82
            refine (Go.Proofs.Ytpbbechgpgnpbaa.GiOverlaps.C ((Go.Proofs.Ytpbbechgpgnpbaa.PShade.Shade.mk t_15_name t_15_hue t_15_width t_15_dark t_15_light)) ((Go.Proofs.Ytpbbechgpgnpbaa.PShade.Shade.mk t_27_name t_27_hue t_27_width t_27_dark t_27_light))  _    qt_33).mono ?_
            rintro e_t_33 wt_33 ⟨rfl, bt_33⟩
            have HBwt_33 := Lib.hid (Below.step HBw_y_29.out bt_33)
            replace kx_17_0__152 := cell_below bt_33 kx_17_0__152
            replace kx_17_1__153 := cell_below bt_33 kx_17_1__153
            replace kx_17_2__154 := cell_below bt_33 kx_17_2__154
            replace kx_17_3__155 := cell_below bt_33 kx_17_3__155
            replace kx_17_4__156 := cell_below bt_33 kx_17_4__156
            replace ct_27_0__157 := cell_below bt_33 ct_27_0__157
            replace ct_27_1__158 := cell_below bt_33 ct_27_1__158
            replace ct_27_2__159 := cell_below bt_33 ct_27_2__159
            replace ct_27_3__160 := cell_below bt_33 ct_27_3__160
            replace ct_27_4__161 := cell_below bt_33 ct_27_4__161
            replace ky_29_0 := cell_below bt_33 ky_29_0
            replace ky_29_1 := cell_below bt_33 ky_29_1
            replace ky_29_2 := cell_below bt_33 ky_29_2
            replace ky_29_3 := cell_below bt_33 ky_29_3
            replace ky_29_4 := cell_below bt_33 ky_29_4
            replace Opairs_4l1 := Lib.hid (Go.Proofs.Ytpbbechgpgnpbaa.GoN.nest_below Opairs_4l1.out bt_33)
            clear bt_33
            cases t_33 with
            | false =>
              replace H := ite_f H
              replace H := app_hid H
              go_wp2_with fail
              go_roundg m1
              case measure => omega
              case rel => exact ⟨k1 + 1, _, _, _, _, by omega, by go_num, rfl, H, HBwt_33, kx_17_0__152, kx_17_1__153, kx_17_2__154, kx_17_3__155, kx_17_4__156, Opairs_4l1, Lib.hid Dx_17_pairs_4l1.out⟩
            | true =>
              replace H := ite_t H
              replace H := let_hid H
              obtain ⟨t_39, ht_39, H⟩ := H
              obtain ⟨w_t_39, hw_t_39⟩ : ∃ x, wt_33.alloc (.cells #[.string t_15_name, .string t_27_name] 9) = x := ⟨_, rfl⟩
              have bw_t_39 : Below wt_33.heap.size wt_33 w_t_39 := by rw [← hw_t_39]; exact (Below.refl _ _).alloc (Nat.le_refl _) _
              have hs_t_39 := HBwt_33.out.size
              have nt_39 : t_39.length = 2 := by rw [← ht_39]; rfl
              have Ot_39 : Hid (w_t_39.ownsRow w.heap.size 9 1 (.slice (some ⟨wt_33.heap.size, 0, none⟩) 2 2) 2 (t_39.map Value.string)) := by
                rw [← hw_t_39, ← ht_39]
                have e_ : ([.string t_15_name, .string t_27_name] : List Value) = (([t_15_name, t_27_name] : List ByteArray).map Value.string) := rfl
                exact Lib.hid (own_laid (n := 2) hs_t_39 e_ rfl (by unfold maxLen; omega))
              clear hs_t_39
              have hht_39 := Lib.hid ht_39
              clear ht_39
              replace nt_39 := Lib.hid nt_39
              have Dt_39_pairs_4l1 := Lib.hid (Go.Proofs.Ytpbbechgpgnpbaa.GoN.nest_fresh Opairs_4l1.out)
              have Dt_39_x_17 := Lib.hid (apart_box kx_17_0__152)
              have Dt_39_y_29 := Lib.hid (apart_box ky_29_0)
              have HBw_t_39 := Lib.hid (Below.step HBwt_33.out bw_t_39)
              have kx_17_0__162 := cell_below bw_t_39 kx_17_0__152
              have kx_17_1__163 := cell_below bw_t_39 kx_17_1__153
              have kx_17_2__164 := cell_below bw_t_39 kx_17_2__154
              have kx_17_3__165 := cell_below bw_t_39 kx_17_3__155
              have kx_17_4__166 := cell_below bw_t_39 kx_17_4__156
              have ct_27_0__167 := cell_below bw_t_39 ct_27_0__157
              have ct_27_1__168 := cell_below bw_t_39 ct_27_1__158
              have ct_27_2__169 := cell_below bw_t_39 ct_27_2__159
              have ct_27_3__170 := cell_below bw_t_39 ct_27_3__160
              have ct_27_4__171 := cell_below bw_t_39 ct_27_4__161
              have ky_29_0__172 := cell_below bw_t_39 ky_29_0
              have ky_29_1__173 := cell_below bw_t_39 ky_29_1
              have ky_29_2__174 := cell_below bw_t_39 ky_29_2
              have ky_29_3__175 := cell_below bw_t_39 ky_29_3
              have ky_29_4__176 := cell_below bw_t_39 ky_29_4
              replace Opairs_4l1 := Lib.hid (Go.Proofs.Ytpbbechgpgnpbaa.GoN.nest_below Opairs_4l1.out bw_t_39)
              clear bw_t_39
              obtain ⟨w_t_40, hw_t_40⟩ : ∃ x, w_t_39.alloc (.cells #[.slice (some ⟨wt_33.heap.size, 0, none⟩) 2 2] 39) = x := ⟨_, rfl⟩
              have bw_t_40 : Below w_t_39.heap.size w_t_39 w_t_40 := by rw [← hw_t_40]; exact (Below.refl _ _).alloc (Nat.le_refl _) _
              have HBw_t_40 := Lib.hid (Below.step HBw_t_39.out bw_t_40)
              have kx_17_0__177 := cell_below bw_t_40 kx_17_0__162
              have kx_17_1__178 := cell_below bw_t_40 kx_17_1__163
              have kx_17_2__179 := cell_below bw_t_40 kx_17_2__164
              have kx_17_3__180 := cell_below bw_t_40 kx_17_3__165
              have kx_17_4__181 := cell_below bw_t_40 kx_17_4__166
              have ct_27_0__182 := cell_below bw_t_40 ct_27_0__167
              have ct_27_1__183 := cell_below bw_t_40 ct_27_1__168
              have ct_27_2__184 := cell_below bw_t_40 ct_27_2__169
              have ct_27_3__185 := cell_below bw_t_40 ct_27_3__170
              have ct_27_4__186 := cell_below bw_t_40 ct_27_4__171
              have ky_29_0__187 := cell_below bw_t_40 ky_29_0__172
              have ky_29_1__188 := cell_below bw_t_40 ky_29_1__173
              have ky_29_2__189 := cell_below bw_t_40 ky_29_2__174
              have ky_29_3__190 := cell_below bw_t_40 ky_29_3__175
              have ky_29_4__191 := cell_below bw_t_40 ky_29_4__176
              replace Opairs_4l1 := Lib.hid (Go.Proofs.Ytpbbechgpgnpbaa.GoN.nest_below Opairs_4l1.out bw_t_40)
              replace Ot_39 := Lib.hid (own_below Ot_39.out bw_t_40)
              clear bw_t_40
              replace H := guard_hid H
              obtain ⟨hlt_41, H⟩ := H
              replace H := let_hid H
              obtain ⟨t_41, ht_41, H⟩ := H
              have hht_41 := Lib.hid ht_41
              clear ht_41
              have hst_41 := HBw_t_40.out.size
              obtain ⟨zt_41, h1t_41, h2t_41, h3t_41, h4t_41, h5t_41⟩ := Opairs_4l1.out
              have h1t_41i := Lib.hid h1t_41
              have h3t_41i := Lib.hid h3t_41
              have h4t_41i := Lib.hid h4t_41
              have h5t_41i := Lib.hid h5t_41
              clear h1t_41 h3t_41 h4t_41 h5t_41
              have h2t_41i := Lib.hid h2t_41
              clear h2t_41
              have hq_t_41 : Hid ((Value.slice (some ⟨wt_33.heap.size, 0, none⟩) 2 2 : Value) = Value.slice (some ⟨wt_33.heap.size, 0, none⟩) t_39.length 2) := Lib.hid (by rw [show t_39.length = 2 from nt_39.out])
              go_wp2_with (at_builtin; refine wpList_append_own_at _ rfl _ _ 51 rfl w.heap.size 39 i0_39 (.slice none 0 0) 1 24 Try.underlying51 hi_39 hz0_39 hz1_39 hz2_39 rfl (by decide) _ _ _ rfl h2t_41i.out ⟨w_t_39.heap.size, 0, none⟩ 1 1 [.slice (some ⟨wt_33.heap.size, 0, none⟩) 2 2] rfl rfl (news_new hw_t_40) (one_cells rfl) (by unfold maxLen; omega) (by omega) hst_41 ?_; intro vt_41 wt_41 ot_41 gt_41 ut_41 yt_41; clear ut_41; rw [hq_t_41.out] at ot_41; obtain ⟨qt_41, ct_41, Bt_41, rfl, pt_41, dt_41, rt_41⟩ := Go.Proofs.Ytpbbechgpgnpbaa.GoN.nest_app hht_41.out h1t_41i.out h4t_41i.out h3t_41i.out h5t_41i.out (own_len nt_39.out Ot_39.out) Dt_39_pairs_4l1.out gt_41 ot_41 yt_41; have Pt_41 := Lib.hid pt_41; have Ut_41 := Lib.hid dt_41; have Rt_41 := Lib.hid rt_41; have Gt_41 := Lib.hid gt_41; clear ot_41 gt_41 pt_41 yt_41 dt_41 rt_41; refine stop_in ?_)
              refine stop_out ?_
              have HBwt_41 := Lib.hid (HBw_t_40.out.grown Gt_41.out hst_41 (fun q hq => (h2t_41i.out.lt q hq).1))
              clear hst_41
              have Dt_41_x_17 : Hid (∀ y_ ∈ Bt_41, Apart (some ⟨wr0.heap.size, 0, none⟩) y_) := Lib.hid (Go.Proofs.Ytpbbechgpgnpbaa.GoN.apart_push Dx_17_pairs_4l1.out (Apart.symm Dt_39_x_17.out) (fun a_ ha_ => by cases ha_; exact cell_lt kx_17_0__177) Ut_41.out)
              have Dt_41_y_29 : Hid (∀ y_ ∈ Bt_41, Apart (some ⟨wr1.heap.size, 0, none⟩) y_) := Lib.hid (Go.Proofs.Ytpbbechgpgnpbaa.GoN.apart_push Dy_29_pairs_4l1.out (Apart.symm Dt_39_y_29.out) (fun a_ ha_ => by cases ha_; exact cell_lt ky_29_0__187) Ut_41.out)
              replace kx_17_0__177 := cell_other kx_17_0__177 Gt_41.out (Apart.symm (Dx_17_pairs_4l1.out _ (Go.Proofs.Ytpbbechgpgnpbaa.GoN.nest_head Opairs_4l1.out)))
              replace kx_17_1__178 := cell_other kx_17_1__178 Gt_41.out (Apart.symm (Dx_17_pairs_4l1.out _ (Go.Proofs.Ytpbbechgpgnpbaa.GoN.nest_head Opairs_4l1.out)))
              replace kx_17_2__179 := cell_other kx_17_2__179 Gt_41.out (Apart.symm (Dx_17_pairs_4l1.out _ (Go.Proofs.Ytpbbechgpgnpbaa.GoN.nest_head Opairs_4l1.out)))
              replace kx_17_3__180 := cell_other kx_17_3__180 Gt_41.out (Apart.symm (Dx_17_pairs_4l1.out _ (Go.Proofs.Ytpbbechgpgnpbaa.GoN.nest_head Opairs_4l1.out)))
              replace kx_17_4__181 := cell_other kx_17_4__181 Gt_41.out (Apart.symm (Dx_17_pairs_4l1.out _ (Go.Proofs.Ytpbbechgpgnpbaa.GoN.nest_head Opairs_4l1.out)))
              replace ct_27_0__182 := cell_other ct_27_0__182 Gt_41.out (apart_old h2t_41i.out ltt_27)
              replace ct_27_1__183 := cell_other ct_27_1__183 Gt_41.out (apart_old h2t_41i.out ltt_27)
              replace ct_27_2__184 := cell_other ct_27_2__184 Gt_41.out (apart_old h2t_41i.out ltt_27)
              replace ct_27_3__185 := cell_other ct_27_3__185 Gt_41.out (apart_old h2t_41i.out ltt_27)
              replace ct_27_4__186 := cell_other ct_27_4__186 Gt_41.out (apart_old h2t_41i.out ltt_27)
              replace ky_29_0__187 := cell_other ky_29_0__187 Gt_41.out (Apart.symm (Dy_29_pairs_4l1.out _ (Go.Proofs.Ytpbbechgpgnpbaa.GoN.nest_head Opairs_4l1.out)))
              replace ky_29_1__188 := cell_other ky_29_1__188 Gt_41.out (Apart.symm (Dy_29_pairs_4l1.out _ (Go.Proofs.Ytpbbechgpgnpbaa.GoN.nest_head Opairs_4l1.out)))
              replace ky_29_2__189 := cell_other ky_29_2__189 Gt_41.out (Apart.symm (Dy_29_pairs_4l1.out _ (Go.Proofs.Ytpbbechgpgnpbaa.GoN.nest_head Opairs_4l1.out)))
              replace ky_29_3__190 := cell_other ky_29_3__190 Gt_41.out (Apart.symm (Dy_29_pairs_4l1.out _ (Go.Proofs.Ytpbbechgpgnpbaa.GoN.nest_head Opairs_4l1.out)))
              replace ky_29_4__191 := cell_other ky_29_4__191 Gt_41.out (Apart.symm (Dy_29_pairs_4l1.out _ (Go.Proofs.Ytpbbechgpgnpbaa.GoN.nest_head Opairs_4l1.out)))
              replace Ot_39 := Lib.hid (own_other Ot_39.out Gt_41.out (Apart.symm (Dt_39_pairs_4l1.out _ (Go.Proofs.Ytpbbechgpgnpbaa.GoN.nest_head Opairs_4l1.out))))
              clear kx_17_0__152 kx_17_1__153 kx_17_2__154 kx_17_3__155 kx_17_4__156 ct_27_0__157 ct_27_1__158 ct_27_2__159 ct_27_3__160 ct_27_4__161 ky_29_0 ky_29_1 ky_29_2 ky_29_3 ky_29_4 kx_17_0__162 kx_17_1__163 kx_17_2__164 kx_17_3__165 kx_17_4__166 ct_27_0__167 ct_27_1__168 ct_27_2__169 ct_27_3__170 ct_27_4__171 ky_29_0__172 ky_29_1__173 ky_29_2__174 ky_29_3__175 ky_29_4__176
              clear Opairs_4l1 Gt_41 h1t_41i h2t_41i h3t_41i h4t_41i h5t_41i
              clear Ot_39
              have mmt_41 := Lib.hid Ut_41.out.2.1
              clear Ut_41
              clear Rt_41 mmt_41
              replace H := app_hid H
              go_wp2_with fail
              go_roundg m1
              case measure => omega
              case rel => exact ⟨k1 + 1, _, _, _, _, by omega, by go_num, rfl, H, HBwt_41, kx_17_0__177, kx_17_1__178, kx_17_2__179, kx_17_3__180, kx_17_4__181, Pt_41, Lib.hid Dt_41_x_17.out⟩
end Go.Proofs.Ytpbbechgpgnpbaa.GiOverlapPairs

/- loop.example/g01062/laws.eqStringS as a plain function, and the contract of the program's: where the plain one has an answer, the program has it. Conditions: slices read as lists. -/
namespace Go.Proofs.Ytpbbechgpgnpbaa.GlEqStringS
set_option linter.unusedVariables false
set_option linter.unusedSimpArgs false
open Go.RowKit
open Go.Proofs.Ytpbbechgpgnpbaa.Rowed Go.Proofs.Ytpbbechgpgnpbaa.Turn Go.Proofs.Ytpbbechgpgnpbaa.Aid Go.Proofs.Ytpbbechgpgnpbaa.GoP Go.Proofs.Ytpbbechgpgnpbaa.GoM

def l0 (a : (List ByteArray)) (b : (List ByteArray)) (k0 : Nat) (s : Unit) (nx0 bk0 : Unit → Option (Bool)) : Option (Bool) :=
  
  Option.bind (idx a (k0 : Int)) fun (yt_14 : ByteArray) =>
  Option.bind (idx b (k0 : Int)) fun (yt_18 : ByteArray) =>
  letK (!(yt_14.toList == yt_18.toList)) fun (t_20 : Bool) =>
  iteK t_20
  (some false)
  (appK nx0 ())

def e0  (s : Unit) : Option (Bool) :=
  
  some true

def P (a : (List ByteArray)) (b : (List ByteArray)) : Option (Bool) :=
  letK ((a.length : Int) != (b.length : Int)) fun (t_5 : Bool) =>
  iteK t_5
  (some false)
  (cntK (l0 a b) (a.length) 0 () (e0 ))

set_option maxRecDepth 100000 in
set_option maxHeartbeats 2000000 in
theorem C (a : (List ByteArray)) (b : (List ByteArray)) (A0 : Option Addr) (c0 : Nat) (A1 : Option Addr) (c1 : Nat)  (w : World) (M0 : Hid (Cells w 1 A0 a.length (a.map Value.string))) (N0 : Hid (a.length ≤ 9223372036854775807)) (M1 : Hid (Cells w 1 A1 b.length (b.map Value.string))) (N1 : Hid (b.length ≤ 9223372036854775807))  {r : Bool} (H : Hid (P a b = some r)) :
    Calls Try.prog 28 #[.slice A0 a.length c0, .slice A1 b.length c1] w (Gives (.bool r) w) := by
  have HB := Lib.hid (Below.refl w.heap.size w)
  unfold P at H
  have N0o := N0.out
  have N1o := N1.out
  go_enter Try.func28, Try.ntmps28
  replace H := let_hid H
  obtain ⟨t_5, ht_5, H⟩ := H
  cases t_5 with
  | false =>
    have Hht_5 : Hid (a.length = b.length) := Lib.hid (by have := bne_eq_false_iff_eq.1 ht_5; omega)
    have nht_5 : (a.length == b.length) = true := beq_iff_eq.2 Hht_5.out
    replace H := ite_f H
    go_wp2_with fail
    go_loopg [5] (a.length) (fun m_ v5_ wr => ∃ (k0 : Nat) , k0 + m_ = a.length ∧ v5_ = .int .i64 (k0 : Int) ∧ Hid (cntK (l0 a b) m_ k0 () (e0 ) = some r) ∧ Hid (Below w.heap.size w wr))
    case atStart => exact ⟨0, by omega, rfl, H, HB⟩
    case round =>
      obtain ⟨k0, hkm0, rfl, H, HBwr0⟩ := hrel
      rename World => wr0
      cases gk with
      | zero =>
        obtain rfl : k0 = a.length := by omega
        have hc0 : decide (((a.length : Nat) : Int) < ((a.length : Nat) : Int)) = false := by simp
        replace H := cnt_zero H
        unfold e0 at H
        obtain rfl := ret_hid H
        go_wp2_with fail
        go_ret
        exact ⟨rfl, HBwr0.out⟩
      | succ m0 =>
        have hlt0 : k0 < a.length := by omega
        have hc0 : decide ((k0 : Int) < ((a.length : Nat) : Int)) = true := by simp; omega
        replace H := cnt_succ H
        unfold l0 at H
        go_wp2_with fail
        replace H := idx_hid H
        obtain ⟨nt_14, yt_14, et_14, lt_14, gt_14, H⟩ := H
        obtain rfl : k0 = nt_14 := by omega
        clear et_14
        obtain ⟨ab_t_14, ao_t_14, zt_14, At_14, z_t_14, ct_14_0⟩ := strs_at M0.out lt_14
        obtain rfl := Option.some.inj (gt_14.out.symm.trans z_t_14)
        subst At_14
        have ltt_14 := cell_lt ct_14_0
        replace ct_14_0 := cell_below HBwr0.out ct_14_0
        clear z_t_14
        have b0t_14 : (0 : Int) ≤ (k0 : Int) := by omega
        have b1t_14 : (k0 : Int) < ((a.length : Nat) : Int) := by omega
        have b2t_14 : ((k0 : Int)).toNat = k0 := by omega
        have Hct_14_0 := Lib.hid ct_14_0
        replace ct_14_0 := cell_regrown ct_14_0
        replace H := idx_hid H
        obtain ⟨nt_18, yt_18, et_18, lt_18, gt_18, H⟩ := H
        obtain rfl : k0 = nt_18 := by omega
        clear et_18
        obtain ⟨ab_t_18, ao_t_18, zt_18, At_18, z_t_18, ct_18_0⟩ := strs_at M1.out lt_18
        obtain rfl := Option.some.inj (gt_18.out.symm.trans z_t_18)
        subst At_18
        have ltt_18 := cell_lt ct_18_0
        replace ct_18_0 := cell_below HBwr0.out ct_18_0
        clear z_t_18
        have b0t_18 : (0 : Int) ≤ (k0 : Int) := by omega
        have b1t_18 : (k0 : Int) < ((b.length : Nat) : Int) := by omega
        have b2t_18 : ((k0 : Int)).toNat = k0 := by omega
        have Hct_18_0 := Lib.hid ct_18_0
        replace ct_18_0 := cell_regrown ct_18_0
        replace H := let_hid H
        obtain ⟨t_20, ht_20, H⟩ := H
        refine wp_region_quiet_below (by kernel_rfl) (by kernel_rfl) ?_
        repeat (go_big_quiet_step (fail))
        refine wpQuiet_nil ?_
        intro Y6 hY6
        replace hY6 := below_class hY6
        replace ct_14_0 := Hct_14_0.out
        clear Hct_14_0
        replace ct_18_0 := Hct_18_0.out
        clear Hct_18_0
        have HBY6 := Lib.hid (Below.step HBwr0.out hY6)
        replace ct_14_0 := cell_below hY6 ct_14_0
        replace ct_18_0 := cell_below hY6 ct_18_0
        clear hY6
        cases t_20 with
        | false =>
          replace H := ite_f H
          replace H := app_hid H
          go_wp2_with fail
          go_roundg m0
          case measure => omega
          case rel => exact ⟨k0 + 1, by omega, by go_num, H, HBY6⟩
        | true =>
          replace H := ite_t H
          obtain rfl := ret_hid H
          go_wp2_with fail
          go_ret
          exact ⟨rfl, HBY6.out⟩
  | true =>
    have nht_5 : ¬ (a.length = b.length) := by have := bne_iff_ne.1 ht_5; omega
    replace H := ite_t H
    obtain rfl := ret_hid H
    go_wp2_with fail
    go_ret
    exact ⟨rfl, HB.out⟩
end Go.Proofs.Ytpbbechgpgnpbaa.GlEqStringS

/- loop.example/g01062/laws.eqStringSS as a plain function, and the contract of the program's: where the plain one has an answer, the program has it. Conditions: slices read as lists. -/
namespace Go.Proofs.Ytpbbechgpgnpbaa.GlEqStringSS
set_option linter.unusedVariables false
set_option linter.unusedSimpArgs false
open Go.RowKit
open Go.Proofs.Ytpbbechgpgnpbaa.Rowed Go.Proofs.Ytpbbechgpgnpbaa.Turn Go.Proofs.Ytpbbechgpgnpbaa.Aid Go.Proofs.Ytpbbechgpgnpbaa.GoP Go.Proofs.Ytpbbechgpgnpbaa.GoM

def l0 (a : (List (List ByteArray))) (b : (List (List ByteArray))) (k0 : Nat) (s : Unit) (nx0 bk0 : Unit → Option (Bool)) : Option (Bool) :=
  
  Option.bind (idx a (k0 : Int)) fun (yt_14 : (List ByteArray)) =>
  Option.bind (idx b (k0 : Int)) fun (yt_18 : (List ByteArray)) =>
  Option.bind (Go.Proofs.Ytpbbechgpgnpbaa.GlEqStringS.P yt_14 yt_18) fun (t_20 : Bool) =>
  letK (!t_20) fun (t_21 : Bool) =>
  iteK t_21
  (some false)
  (appK nx0 ())

def e0  (s : Unit) : Option (Bool) :=
  
  some true

def P (a : (List (List ByteArray))) (b : (List (List ByteArray))) : Option (Bool) :=
  letK ((a.length : Int) != (b.length : Int)) fun (t_5 : Bool) =>
  iteK t_5
  (some false)
  (cntK (l0 a b) (a.length) 0 () (e0 ))

set_option maxRecDepth 100000 in
set_option maxHeartbeats 2000000 in
theorem C (a : (List (List ByteArray))) (b : (List (List ByteArray))) (A0 : Option Addr) (c0 : Nat) (A1 : Option Addr) (c1 : Nat)  (w : World) (M0 : Hid (Go.Proofs.Ytpbbechgpgnpbaa.GoN.ReadNest w 1 (fun z_ => z_.map Value.string) A0 a)) (N0 : Hid (a.length ≤ 9223372036854775807)) (M1 : Hid (Go.Proofs.Ytpbbechgpgnpbaa.GoN.ReadNest w 1 (fun z_ => z_.map Value.string) A1 b)) (N1 : Hid (b.length ≤ 9223372036854775807))  {r : Bool} (H : Hid (P a b = some r)) :
    Calls Try.prog 38 #[.slice A0 a.length c0, .slice A1 b.length c1] w (Gives (.bool r) w) := by
  have HB := Lib.hid (Below.refl w.heap.size w)
  unfold P at H
  have N0o := N0.out
  have N1o := N1.out
  go_enter Try.func38, Try.ntmps38
  replace H := let_hid H
  obtain ⟨t_5, ht_5, H⟩ := H
  cases t_5 with
  | false =>
    have Hht_5 : Hid (a.length = b.length) := Lib.hid (by have := bne_eq_false_iff_eq.1 ht_5; omega)
    have nht_5 : (a.length == b.length) = true := beq_iff_eq.2 Hht_5.out
    replace H := ite_f H
    go_wp2_with fail
    go_loopg [5] (a.length) (fun m_ v5_ wr => ∃ (k0 : Nat) , k0 + m_ = a.length ∧ v5_ = .int .i64 (k0 : Int) ∧ Hid (cntK (l0 a b) m_ k0 () (e0 ) = some r) ∧ Hid (Below w.heap.size w wr))
    case atStart => exact ⟨0, by omega, rfl, H, HB⟩
    case round =>
      obtain ⟨k0, hkm0, rfl, H, HBwr0⟩ := hrel
      rename World => wr0
      cases gk with
      | zero =>
        obtain rfl : k0 = a.length := by omega
        have hc0 : decide (((a.length : Nat) : Int) < ((a.length : Nat) : Int)) = false := by simp
        replace H := cnt_zero H
        unfold e0 at H
        obtain rfl := ret_hid H
        go_wp2_with fail
        go_ret
        exact ⟨rfl, HBwr0.out⟩
      | succ m0 =>
        have hlt0 : k0 < a.length := by omega
        have hc0 : decide ((k0 : Int) < ((a.length : Nat) : Int)) = true := by simp; omega
        replace H := cnt_succ H
        unfold l0 at H
        go_wp2_with fail
        replace H := idx_hid H
        obtain ⟨nt_14, yt_14, et_14, lt_14, gt_14, H⟩ := H
        obtain rfl : k0 = nt_14 := by omega
        clear et_14
        obtain ⟨bbt_14, oot_14, zt_14, Art_14, crt_14, eAt_14, zzt_14, hct_14, hrt_14, hqt_14, hnt_14⟩ := Go.Proofs.Ytpbbechgpgnpbaa.GoN.nest_at M0.out (k := k0) lt_14
        obtain rfl := Option.some.inj (gt_14.out.symm.trans zzt_14)
        clear zzt_14
        subst eAt_14
        have ltt_14 := cell_lt hct_14
        replace hct_14 := cell_below HBwr0.out hct_14
        have Mrt_14 := Lib.hid hrt_14
        have Qrt_14 := Lib.hid hqt_14
        have Nrt_14 := Lib.hid hnt_14
        clear hrt_14 hqt_14 hnt_14
        have b0t_14 : (0 : Int) ≤ (k0 : Int) := by omega
        have b1t_14 : (k0 : Int) < ((a.length : Nat) : Int) := by omega
        have b2t_14 : ((k0 : Int)).toNat = k0 := by omega
        have Hhct_14 := Lib.hid hct_14
        replace hct_14 := cell_regrown hct_14
        replace H := idx_hid H
        obtain ⟨nt_18, yt_18, et_18, lt_18, gt_18, H⟩ := H
        obtain rfl : k0 = nt_18 := by omega
        clear et_18
        obtain ⟨bbt_18, oot_18, zt_18, Art_18, crt_18, eAt_18, zzt_18, hct_18, hrt_18, hqt_18, hnt_18⟩ := Go.Proofs.Ytpbbechgpgnpbaa.GoN.nest_at M1.out (k := k0) lt_18
        obtain rfl := Option.some.inj (gt_18.out.symm.trans zzt_18)
        clear zzt_18
        subst eAt_18
        have ltt_18 := cell_lt hct_18
        replace hct_18 := cell_below HBwr0.out hct_18
        have Mrt_18 := Lib.hid hrt_18
        have Qrt_18 := Lib.hid hqt_18
        have Nrt_18 := Lib.hid hnt_18
        clear hrt_18 hqt_18 hnt_18
        have b0t_18 : (0 : Int) ≤ (k0 : Int) := by omega
        have b1t_18 : (k0 : Int) < ((b.length : Nat) : Int) := by omega
        have b2t_18 : ((k0 : Int)).toNat = k0 := by omega
        have Hhct_18 := Lib.hid hct_18
        replace hct_18 := cell_regrown hct_18
        replace H := bind_hid H
        obtain ⟨t_20, qt_20, H⟩ := H
        have nt_20 : ∀ d os, Calls Try.prog 28 #[.slice Art_14 yt_14.length crt_14, .slice Art_18 yt_18.length crt_18] (Go.Sort.grow (redrawn wr0 d) os) fun e w'' => e = .returned (.bool t_20) ∧ ∃ p : Regrown, w'' = Go.Sort.grow (redrawn wr0 p.d) p.os := fun d os => Calls.regrown_of (Go.Proofs.Ytpbbechgpgnpbaa.GlEqStringS.C (yt_14) (yt_18) Art_14 crt_14 Art_18 crt_18 _   (Lib.hid (Cells.below (Cells.below Mrt_14.out HBwr0.out) (below_regrown _ _ _))) Nrt_14 (Lib.hid (Cells.below (Cells.below Mrt_18.out HBwr0.out) (below_regrown _ _ _))) Nrt_18 qt_20)
        cases t_20 with
        | false =>
          replace H := let_hid H
          obtain ⟨t_21, ht_21, H⟩ := H
          obtain rfl : t_21 = true := ht_21.symm
          refine wp_region_quiet_below (by kernel_rfl) (by kernel_rfl) ?_
          repeat (go_big_quiet_step (first | (go_at_call 28; exact nt_20 _ _)))
          refine wpQuiet_nil ?_
          intro Y6 hY6
          replace hY6 := below_class hY6
          clear nt_20
          replace hct_14 := Hhct_14.out
          clear Hhct_14
          replace hct_18 := Hhct_18.out
          clear Hhct_18
          have HBY6 := Lib.hid (Below.step HBwr0.out hY6)
          replace hct_14 := cell_below hY6 hct_14
          replace hct_18 := cell_below hY6 hct_18
          clear hY6
          replace H := ite_t H
          obtain rfl := ret_hid H
          go_wp2_with fail
          go_ret
          exact ⟨rfl, HBY6.out⟩
        | true =>
          replace H := let_hid H
          obtain ⟨t_21, ht_21, H⟩ := H
          obtain rfl : t_21 = false := ht_21.symm
          refine wp_region_quiet_below (by kernel_rfl) (by kernel_rfl) ?_
          repeat (go_big_quiet_step (first | (go_at_call 28; exact nt_20 _ _)))
          refine wpQuiet_nil ?_
          intro Y6 hY6
          replace hY6 := below_class hY6
          clear nt_20
          replace hct_14 := Hhct_14.out
          clear Hhct_14
          replace hct_18 := Hhct_18.out
          clear Hhct_18
          have HBY6 := Lib.hid (Below.step HBwr0.out hY6)
          replace hct_14 := cell_below hY6 hct_14
          replace hct_18 := cell_below hY6 hct_18
          clear hY6
          replace H := ite_f H
          replace H := app_hid H
          go_wp2_with fail
          go_roundg m0
          case measure => omega
          case rel => exact ⟨k0 + 1, by omega, by go_num, H, HBY6⟩
  | true =>
    have nht_5 : ¬ (a.length = b.length) := by have := bne_iff_ne.1 ht_5; omega
    replace H := ite_t H
    obtain rfl := ret_hid H
    go_wp2_with fail
    go_ret
    exact ⟨rfl, HB.out⟩
end Go.Proofs.Ytpbbechgpgnpbaa.GlEqStringSS

/- loop.example/g01062/laws.eqShade as a plain function, and the contract of the program's: where the plain one has an answer, the program has it. Conditions: slices read as lists. -/
namespace Go.Proofs.Ytpbbechgpgnpbaa.GlEqShade
set_option linter.unusedVariables false
set_option linter.unusedSimpArgs false
open Go.RowKit
open Go.Proofs.Ytpbbechgpgnpbaa.Rowed Go.Proofs.Ytpbbechgpgnpbaa.Turn Go.Proofs.Ytpbbechgpgnpbaa.Aid Go.Proofs.Ytpbbechgpgnpbaa.GoP Go.Proofs.Ytpbbechgpgnpbaa.GoM

def P (a : Go.Proofs.Ytpbbechgpgnpbaa.PShade.Shade) (b : Go.Proofs.Ytpbbechgpgnpbaa.PShade.Shade) : Option (Bool) :=
  unShade a fun (a_name : ByteArray) (a_hue : Int) (a_width : Int) (a_dark : Int) (a_light : Int) =>
  unShade b fun (b_name : ByteArray) (b_hue : Int) (b_width : Int) (b_dark : Int) (b_light : Int) =>
  letK (!(a_name.toList == b_name.toList)) fun (t_7 : Bool) =>
  iteK t_7
  (some false)
  (letK (a_hue != b_hue) fun (t_13 : Bool) =>
  iteK t_13
  (some false)
  (letK (a_width != b_width) fun (t_19 : Bool) =>
  iteK t_19
  (some false)
  (letK (a_dark != b_dark) fun (t_25 : Bool) =>
  iteK t_25
  (some false)
  (letK (a_light != b_light) fun (t_31 : Bool) =>
  iteK t_31
  (some false)
  (some true)))))

set_option maxRecDepth 100000 in
set_option maxHeartbeats 2000000 in
theorem C (a : Go.Proofs.Ytpbbechgpgnpbaa.PShade.Shade) (b : Go.Proofs.Ytpbbechgpgnpbaa.PShade.Shade)   (w : World)   {r : Bool} (H : Hid (P a b = some r)) :
    Calls Try.prog 63 #[a.val, b.val] w (Gives (.bool r) w) := by
  have HB := Lib.hid (Below.refl w.heap.size w)
  unfold P at H
  obtain ⟨a_name, a_hue, a_width, a_dark, a_light⟩ := a
  replace H := unShade_hid H
  obtain ⟨b_name, b_hue, b_width, b_dark, b_light⟩ := b
  replace H := unShade_hid H
  unfold Go.Proofs.Ytpbbechgpgnpbaa.PShade.Shade.val
  go_enter Try.func63, Try.ntmps63
  obtain ⟨w_a_0, hw_a_0⟩ : ∃ x, w.alloc (.cells #[.string a_name, .int .i64 a_hue, .int .i64 a_width, .int .i64 a_dark, .int .i64 a_light] 26) = x := ⟨_, rfl⟩
  have bw_a_0 : Below w.heap.size w w_a_0 := by rw [← hw_a_0]; exact (Below.refl _ _).alloc (Nat.le_refl _) _
  have HBw_a_0 := Lib.hid (Below.step HB.out bw_a_0)
  clear bw_a_0
  have ka_0_0 : w_a_0.cell? ⟨w.heap.size, 0, none⟩ = some (.string a_name) := by rw [← hw_a_0]; exact box_new _ _ _ 0 _ rfl
  have ka_0_1 : w_a_0.cell? ⟨w.heap.size, 1, none⟩ = some (.int .i64 a_hue) := by rw [← hw_a_0]; exact box_new _ _ _ 1 _ rfl
  have ka_0_2 : w_a_0.cell? ⟨w.heap.size, 2, none⟩ = some (.int .i64 a_width) := by rw [← hw_a_0]; exact box_new _ _ _ 2 _ rfl
  have ka_0_3 : w_a_0.cell? ⟨w.heap.size, 3, none⟩ = some (.int .i64 a_dark) := by rw [← hw_a_0]; exact box_new _ _ _ 3 _ rfl
  have ka_0_4 : w_a_0.cell? ⟨w.heap.size, 4, none⟩ = some (.int .i64 a_light) := by rw [← hw_a_0]; exact box_new _ _ _ 4 _ rfl
  obtain ⟨w_b_1, hw_b_1⟩ : ∃ x, w_a_0.alloc (.cells #[.string b_name, .int .i64 b_hue, .int .i64 b_width, .int .i64 b_dark, .int .i64 b_light] 26) = x := ⟨_, rfl⟩
  have bw_b_1 : Below w_a_0.heap.size w_a_0 w_b_1 := by rw [← hw_b_1]; exact (Below.refl _ _).alloc (Nat.le_refl _) _
  have HBw_b_1 := Lib.hid (Below.step HBw_a_0.out bw_b_1)
  have ka_0_0__192 := cell_below bw_b_1 ka_0_0
  have ka_0_1__193 := cell_below bw_b_1 ka_0_1
  have ka_0_2__194 := cell_below bw_b_1 ka_0_2
  have ka_0_3__195 := cell_below bw_b_1 ka_0_3
  have ka_0_4__196 := cell_below bw_b_1 ka_0_4
  clear bw_b_1
  have kb_1_0 : w_b_1.cell? ⟨w_a_0.heap.size, 0, none⟩ = some (.string b_name) := by rw [← hw_b_1]; exact box_new _ _ _ 0 _ rfl
  have kb_1_1 : w_b_1.cell? ⟨w_a_0.heap.size, 1, none⟩ = some (.int .i64 b_hue) := by rw [← hw_b_1]; exact box_new _ _ _ 1 _ rfl
  have kb_1_2 : w_b_1.cell? ⟨w_a_0.heap.size, 2, none⟩ = some (.int .i64 b_width) := by rw [← hw_b_1]; exact box_new _ _ _ 2 _ rfl
  have kb_1_3 : w_b_1.cell? ⟨w_a_0.heap.size, 3, none⟩ = some (.int .i64 b_dark) := by rw [← hw_b_1]; exact box_new _ _ _ 3 _ rfl
  have kb_1_4 : w_b_1.cell? ⟨w_a_0.heap.size, 4, none⟩ = some (.int .i64 b_light) := by rw [← hw_b_1]; exact box_new _ _ _ 4 _ rfl
  replace H := let_hid H
  obtain ⟨t_7, ht_7, H⟩ := H
  cases t_7 with
  | false =>
    replace H := ite_f H
    replace H := let_hid H
    obtain ⟨t_13, ht_13, H⟩ := H
    cases t_13 with
    | false =>
      replace H := ite_f H
      replace H := let_hid H
      obtain ⟨t_19, ht_19, H⟩ := H
      cases t_19 with
      | false =>
        replace H := ite_f H
        replace H := let_hid H
        obtain ⟨t_25, ht_25, H⟩ := H
        cases t_25 with
        | false =>
          replace H := ite_f H
          replace H := let_hid H
          obtain ⟨t_31, ht_31, H⟩ := H
          cases t_31 with
          | false =>
            replace H := ite_f H
            obtain rfl := ret_hid H
            go_wp2_with fail
            go_ret
            exact ⟨rfl, HBw_b_1.out⟩
          | true =>
            replace H := ite_t H
            obtain rfl := ret_hid H
            go_wp2_with fail
            go_ret
            exact ⟨rfl, HBw_b_1.out⟩
        | true =>
          replace H := ite_t H
          obtain rfl := ret_hid H
          go_wp2_with fail
          go_ret
          exact ⟨rfl, HBw_b_1.out⟩
      | true =>
        replace H := ite_t H
        obtain rfl := ret_hid H
        go_wp2_with fail
        go_ret
        exact ⟨rfl, HBw_b_1.out⟩
    | true =>
      replace H := ite_t H
      obtain rfl := ret_hid H
      go_wp2_with fail
      go_ret
      exact ⟨rfl, HBw_b_1.out⟩
  | true =>
    replace H := ite_t H
    obtain rfl := ret_hid H
    go_wp2_with fail
    go_ret
    exact ⟨rfl, HBw_b_1.out⟩
end Go.Proofs.Ytpbbechgpgnpbaa.GlEqShade

/- loop.example/g01062/laws.eqShadeS as a plain function, and the contract of the program's: where the plain one has an answer, the program has it. Conditions: slices read as lists. -/
namespace Go.Proofs.Ytpbbechgpgnpbaa.GlEqShadeS
set_option linter.unusedVariables false
set_option linter.unusedSimpArgs false
open Go.RowKit
open Go.Proofs.Ytpbbechgpgnpbaa.Rowed Go.Proofs.Ytpbbechgpgnpbaa.Turn Go.Proofs.Ytpbbechgpgnpbaa.Aid Go.Proofs.Ytpbbechgpgnpbaa.GoP Go.Proofs.Ytpbbechgpgnpbaa.GoM

def l0 (a : (List Go.Proofs.Ytpbbechgpgnpbaa.PShade.Shade)) (b : (List Go.Proofs.Ytpbbechgpgnpbaa.PShade.Shade)) (k0 : Nat) (s : Unit) (nx0 bk0 : Unit → Option (Bool)) : Option (Bool) :=
  
  Option.bind (idx a (k0 : Int)) fun (yt_14 : Go.Proofs.Ytpbbechgpgnpbaa.PShade.Shade) =>
  unShade yt_14 fun (t_14_name : ByteArray) (t_14_hue : Int) (t_14_width : Int) (t_14_dark : Int) (t_14_light : Int) =>
  Option.bind (idx b (k0 : Int)) fun (yt_18 : Go.Proofs.Ytpbbechgpgnpbaa.PShade.Shade) =>
  unShade yt_18 fun (t_18_name : ByteArray) (t_18_hue : Int) (t_18_width : Int) (t_18_dark : Int) (t_18_light : Int) =>
  Option.bind (Go.Proofs.Ytpbbechgpgnpbaa.GlEqShade.P (Go.Proofs.Ytpbbechgpgnpbaa.PShade.Shade.mk t_14_name t_14_hue t_14_width t_14_dark t_14_light) (Go.Proofs.Ytpbbechgpgnpbaa.PShade.Shade.mk t_18_name t_18_hue t_18_width t_18_dark t_18_light)) fun (t_20 : Bool) =>
  letK (!t_20) fun (t_21 : Bool) =>
  iteK t_21
  (some false)
  (appK nx0 ())

def e0  (s : Unit) : Option (Bool) :=
  
  some true

def P (a : (List Go.Proofs.Ytpbbechgpgnpbaa.PShade.Shade)) (b : (List Go.Proofs.Ytpbbechgpgnpbaa.PShade.Shade)) : Option (Bool) :=
  letK ((a.length : Int) != (b.length : Int)) fun (t_5 : Bool) =>
  iteK t_5
  (some false)
  (cntK (l0 a b) (a.length) 0 () (e0 ))

set_option maxRecDepth 100000 in
set_option maxHeartbeats 2000000 in
theorem C (a : (List Go.Proofs.Ytpbbechgpgnpbaa.PShade.Shade)) (b : (List Go.Proofs.Ytpbbechgpgnpbaa.PShade.Shade)) (A0 : Option Addr) (c0 : Nat) (A1 : Option Addr) (c1 : Nat)  (w : World) (M0 : Hid (Cells w 5 A0 a.length (Go.Proofs.Ytpbbechgpgnpbaa.PShade.flat a))) (N0 : Hid (a.length ≤ 9223372036854775807)) (M1 : Hid (Cells w 5 A1 b.length (Go.Proofs.Ytpbbechgpgnpbaa.PShade.flat b))) (N1 : Hid (b.length ≤ 9223372036854775807))  {r : Bool} (H : Hid (P a b = some r)) :
    Calls Try.prog 23 #[.slice A0 a.length c0, .slice A1 b.length c1] w (Gives (.bool r) w) := by
  have HB := Lib.hid (Below.refl w.heap.size w)
  unfold P at H
  have N0o := N0.out
  have N1o := N1.out
  go_enter Try.func23, Try.ntmps23
  replace H := let_hid H
  obtain ⟨t_5, ht_5, H⟩ := H
  cases t_5 with
  | false =>
    have Hht_5 : Hid (a.length = b.length) := Lib.hid (by have := bne_eq_false_iff_eq.1 ht_5; omega)
    have nht_5 : (a.length == b.length) = true := beq_iff_eq.2 Hht_5.out
    replace H := ite_f H
    go_wp2_with fail
    go_loopg [5] (a.length) (fun m_ v5_ wr => ∃ (k0 : Nat) , k0 + m_ = a.length ∧ v5_ = .int .i64 (k0 : Int) ∧ Hid (cntK (l0 a b) m_ k0 () (e0 ) = some r) ∧ Hid (Below w.heap.size w wr))
    case atStart => exact ⟨0, by omega, rfl, H, HB⟩
    case round =>
      obtain ⟨k0, hkm0, rfl, H, HBwr0⟩ := hrel
      rename World => wr0
      cases gk with
      | zero =>
        obtain rfl : k0 = a.length := by omega
        have hc0 : decide (((a.length : Nat) : Int) < ((a.length : Nat) : Int)) = false := by simp
        replace H := cnt_zero H
        unfold e0 at H
        obtain rfl := ret_hid H
        go_wp2_with fail
        go_ret
        exact ⟨rfl, HBwr0.out⟩
      | succ m0 =>
        have hlt0 : k0 < a.length := by omega
        have hc0 : decide ((k0 : Int) < ((a.length : Nat) : Int)) = true := by simp; omega
        replace H := cnt_succ H
        unfold l0 at H
        go_wp2_with fail
        replace H := idx_hid H
        obtain ⟨nt_14, yt_14, et_14, lt_14, gt_14, H⟩ := H
        obtain rfl : k0 = nt_14 := by omega
        clear et_14
        obtain ⟨t_14_name, t_14_hue, t_14_width, t_14_dark, t_14_light⟩ := yt_14
        replace H := unShade_hid H
        obtain ⟨ab_t_14, ao_t_14, zt_14, At_14, z_t_14, ct_14_0, ct_14_1, ct_14_2, ct_14_3, ct_14_4⟩ := Go.Proofs.Ytpbbechgpgnpbaa.OShade.at_ M0.out lt_14
        obtain rfl := Option.some.inj (gt_14.out.symm.trans z_t_14)
        subst At_14
        have ltt_14 := cell_lt ct_14_0
        replace ct_14_0 := cell_below HBwr0.out ct_14_0
        replace ct_14_1 := cell_below HBwr0.out ct_14_1
        replace ct_14_2 := cell_below HBwr0.out ct_14_2
        replace ct_14_3 := cell_below HBwr0.out ct_14_3
        replace ct_14_4 := cell_below HBwr0.out ct_14_4
        clear z_t_14
        have b0t_14 : (0 : Int) ≤ (k0 : Int) := by omega
        have b1t_14 : (k0 : Int) < ((a.length : Nat) : Int) := by omega
        have b2t_14 : ((k0 : Int)).toNat = k0 := by omega
        have Hct_14_0 := Lib.hid ct_14_0
        replace ct_14_0 := cell_regrown ct_14_0
        have Hct_14_1 := Lib.hid ct_14_1
        replace ct_14_1 := cell_regrown ct_14_1
        have Hct_14_2 := Lib.hid ct_14_2
        replace ct_14_2 := cell_regrown ct_14_2
        have Hct_14_3 := Lib.hid ct_14_3
        replace ct_14_3 := cell_regrown ct_14_3
        have Hct_14_4 := Lib.hid ct_14_4
        replace ct_14_4 := cell_regrown ct_14_4
        replace H := idx_hid H
        obtain ⟨nt_18, yt_18, et_18, lt_18, gt_18, H⟩ := H
        obtain rfl : k0 = nt_18 := by omega
        clear et_18
        obtain ⟨t_18_name, t_18_hue, t_18_width, t_18_dark, t_18_light⟩ := yt_18
        replace H := unShade_hid H
        obtain ⟨ab_t_18, ao_t_18, zt_18, At_18, z_t_18, ct_18_0, ct_18_1, ct_18_2, ct_18_3, ct_18_4⟩ := Go.Proofs.Ytpbbechgpgnpbaa.OShade.at_ M1.out lt_18
        obtain rfl := Option.some.inj (gt_18.out.symm.trans z_t_18)
        subst At_18
        have ltt_18 := cell_lt ct_18_0
        replace ct_18_0 := cell_below HBwr0.out ct_18_0
        replace ct_18_1 := cell_below HBwr0.out ct_18_1
        replace ct_18_2 := cell_below HBwr0.out ct_18_2
        replace ct_18_3 := cell_below HBwr0.out ct_18_3
        replace ct_18_4 := cell_below HBwr0.out ct_18_4
        clear z_t_18
        have b0t_18 : (0 : Int) ≤ (k0 : Int) := by omega
        have b1t_18 : (k0 : Int) < ((b.length : Nat) : Int) := by omega
        have b2t_18 : ((k0 : Int)).toNat = k0 := by omega
        have Hct_18_0 := Lib.hid ct_18_0
        replace ct_18_0 := cell_regrown ct_18_0
        have Hct_18_1 := Lib.hid ct_18_1
        replace ct_18_1 := cell_regrown ct_18_1
        have Hct_18_2 := Lib.hid ct_18_2
        replace ct_18_2 := cell_regrown ct_18_2
        have Hct_18_3 := Lib.hid ct_18_3
        replace ct_18_3 := cell_regrown ct_18_3
        have Hct_18_4 := Lib.hid ct_18_4
        replace ct_18_4 := cell_regrown ct_18_4
        replace H := bind_hid H
        obtain ⟨t_20, qt_20, H⟩ := H
        have nt_20 : ∀ d os, Calls Try.prog 63 #[.agg #[.string t_14_name, .int .i64 t_14_hue, .int .i64 t_14_width, .int .i64 t_14_dark, .int .i64 t_14_light], .agg #[.string t_18_name, .int .i64 t_18_hue, .int .i64 t_18_width, .int .i64 t_18_dark, .int .i64 t_18_light]] (Go.Sort.grow (redrawn wr0 d) os) fun e w'' => e = .returned (.bool t_20) ∧ ∃ p : Regrown, w'' = Go.Sort.grow (redrawn wr0 p.d) p.os := fun d os => Calls.regrown_of (Go.Proofs.Ytpbbechgpgnpbaa.GlEqShade.C ((Go.Proofs.Ytpbbechgpgnpbaa.PShade.Shade.mk t_14_name t_14_hue t_14_width t_14_dark t_14_light)) ((Go.Proofs.Ytpbbechgpgnpbaa.PShade.Shade.mk t_18_name t_18_hue t_18_width t_18_dark t_18_light))  _    qt_20)
        cases t_20 with
        | false =>
          replace H := let_hid H
          obtain ⟨t_21, ht_21, H⟩ := H
          obtain rfl : t_21 = true := ht_21.symm
          refine wp_region_quiet_below (by kernel_rfl) (by kernel_rfl) ?_
          repeat (go_big_quiet_step (first | (go_at_call 63; exact nt_20 _ _)))
          refine wpQuiet_nil ?_
          intro Y6 hY6
          replace hY6 := below_class hY6
          clear nt_20
          replace ct_14_0 := Hct_14_0.out
          clear Hct_14_0
          replace ct_14_1 := Hct_14_1.out
          clear Hct_14_1
          replace ct_14_2 := Hct_14_2.out
          clear Hct_14_2
          replace ct_14_3 := Hct_14_3.out
          clear Hct_14_3
          replace ct_14_4 := Hct_14_4.out
          clear Hct_14_4
          replace ct_18_0 := Hct_18_0.out
          clear Hct_18_0
          replace ct_18_1 := Hct_18_1.out
          clear Hct_18_1
          replace ct_18_2 := Hct_18_2.out
          clear Hct_18_2
          replace ct_18_3 := Hct_18_3.out
          clear Hct_18_3
          replace ct_18_4 := Hct_18_4.out
          clear Hct_18_4
          have HBY6 := Lib.hid (Below.step HBwr0.out hY6)
          replace ct_14_0 := cell_below hY6 ct_14_0
          replace ct_14_1 := cell_below hY6 ct_14_1
          replace ct_14_2 := cell_below hY6 ct_14_2
          replace ct_14_3 := cell_below hY6 ct_14_3
          replace ct_14_4 := cell_below hY6 ct_14_4
          replace ct_18_0 := cell_below hY6 ct_18_0
          replace ct_18_1 := cell_below hY6 ct_18_1
          replace ct_18_2 := cell_below hY6 ct_18_2
          replace ct_18_3 := cell_below hY6 ct_18_3
          replace ct_18_4 := cell_below hY6 ct_18_4
          clear hY6
          replace H := ite_t H
          obtain rfl := ret_hid H
          go_wp2_with fail
          go_ret
          exact ⟨rfl, HBY6.out⟩
        | true =>
          replace H := let_hid H
          obtain ⟨t_21, ht_21, H⟩ := H
          obtain rfl : t_21 = false := ht_21.symm
          refine wp_region_quiet_below (by kernel_rfl) (by kernel_rfl) ?_
          repeat (go_big_quiet_step (first | (go_at_call 63; exact nt_20 _ _)))
          refine wpQuiet_nil ?_
          intro Y6 hY6
          replace hY6 := below_class hY6
          clear nt_20
          replace ct_14_0 := Hct_14_0.out
          clear Hct_14_0
          replace ct_14_1 := Hct_14_1.out
          clear Hct_14_1
          replace ct_14_2 := Hct_14_2.out
          clear Hct_14_2
          replace ct_14_3 := Hct_14_3.out
          clear Hct_14_3
          replace ct_14_4 := Hct_14_4.out
          clear Hct_14_4
          replace ct_18_0 := Hct_18_0.out
          clear Hct_18_0
          replace ct_18_1 := Hct_18_1.out
          clear Hct_18_1
          replace ct_18_2 := Hct_18_2.out
          clear Hct_18_2
          replace ct_18_3 := Hct_18_3.out
          clear Hct_18_3
          replace ct_18_4 := Hct_18_4.out
          clear Hct_18_4
          have HBY6 := Lib.hid (Below.step HBwr0.out hY6)
          replace ct_14_0 := cell_below hY6 ct_14_0
          replace ct_14_1 := cell_below hY6 ct_14_1
          replace ct_14_2 := cell_below hY6 ct_14_2
          replace ct_14_3 := cell_below hY6 ct_14_3
          replace ct_14_4 := cell_below hY6 ct_14_4
          replace ct_18_0 := cell_below hY6 ct_18_0
          replace ct_18_1 := cell_below hY6 ct_18_1
          replace ct_18_2 := cell_below hY6 ct_18_2
          replace ct_18_3 := cell_below hY6 ct_18_3
          replace ct_18_4 := cell_below hY6 ct_18_4
          clear hY6
          replace H := ite_f H
          replace H := app_hid H
          go_wp2_with fail
          go_roundg m0
          case measure => omega
          case rel => exact ⟨k0 + 1, by omega, by go_num, H, HBY6⟩
  | true =>
    have nht_5 : ¬ (a.length = b.length) := by have := bne_iff_ne.1 ht_5; omega
    replace H := ite_t H
    obtain rfl := ret_hid H
    go_wp2_with fail
    go_ret
    exact ⟨rfl, HB.out⟩
end Go.Proofs.Ytpbbechgpgnpbaa.GlEqShadeS

/- The contracts of the laws' helpers on slices of strings: szStringS, toStringS, eqStringS. Condition: the slice reads as a list of strings. -/
namespace Go.Proofs.Ytpbbechgpgnpbaa.HelpStr
set_option linter.unusedVariables false
open Go.RowKit
open Go.Proofs.Ytpbbechgpgnpbaa.Rowed

/-- how many bytes the strings hold together -/
def nbytes (l : List ByteArray) : Nat := (l.map ByteArray.size).sum
theorem bytes_take (l : List ByteArray) (k : Nat) (x : ByteArray) (h : l[k]? = some x) : nbytes (l.take (k + 1)) = nbytes (l.take k) + x.size := by
  have hk := (List.getElem?_eq_some_iff.1 h).1
  rw [List.take_succ_eq_append_getElem hk, (List.getElem?_eq_some_iff.1 h).2]
  unfold nbytes; rw [List.map_append, List.sum_append]; simp
theorem bytes_take_le (l : List ByteArray) (k : Nat) : nbytes (l.take k) ≤ nbytes l := by
  conv => rhs; rw [← List.take_append_drop k l]
  unfold nbytes; rw [List.map_append, List.sum_append]; omega

/-- szStringS: what is left of 'left' behind the strings and their number, or -1 where nothing is left -/
def SzPost (l : List ByteArray) (left : Int) (w : World) (e : Ending) (w' : World) : Prop :=
  ((0 ≤ left - (l.length : Int) - (nbytes l : Int) ∧ e = .returned (.int .i64 (left - (l.length : Int) - (nbytes l : Int)))) ∨ (left - (l.length : Int) - (nbytes l : Int) < 0 ∧ e = .returned (.int .i64 (-1)))) ∧ w = w'

theorem size_le_bytes (l : List ByteArray) : ∀ x ∈ l, x.size ≤ nbytes l := by
  induction l with
  | nil => intro x hx; simp at hx
  | cons y r ih =>
    intro x hx
    have e : nbytes (y :: r) = y.size + nbytes r := by unfold nbytes; simp
    rcases List.mem_cons.1 hx with rfl | h
    · omega
    · have := ih x h; omega
theorem strs_own {w : World} {base n c g : Nat} {e : TypeId} {l : List ByteArray} (h : w.ownsRow base e 1 (.slice (some ⟨g, 0, none⟩) n c) n (l.map Value.string)) : Strs w (some ⟨g, 0, none⟩) n l := Cells.of_own h

theorem infoS : (Try.prog.info? 9).map (fun i => (i.zero, i.size, i.bytes)) = some (some (.string ByteArray.empty), 1, 16) := by kernel_rfl

/-- toStringS: a new row with the same strings -/
def ToPost (l : List ByteArray) (w : World) (e : Ending) (w' : World) : Prop :=
  ∃ g, e = .returned (.slice (some ⟨g, 0, none⟩) l.length l.length) ∧ w'.ownsRow w.heap.size 9 1 (.slice (some ⟨g, 0, none⟩) l.length l.length) l.length (l.map Value.string) ∧ Below w.heap.size w w'

def RelTo (l : List ByteArray) (ys : List Value) (w : World) (k : Nat) (wr : World) : Prop :=
  wr.ownsRow w.heap.size 9 1 (.slice (some ⟨w.heap.size, 0, none⟩) l.length l.length) l.length (fill (l.map Value.string) ys k) ∧ Below w.heap.size w wr

theorem rel_start {l : List ByteArray} {w w1 : World} {ys : List Value} (h : w1.ownsRow w.heap.size 9 1 (.slice (some ⟨w.heap.size, 0, none⟩) l.length l.length) l.length ys) (hg : w.grownBy w1 none) :
    ∃ zs : List Value, Hid (zs.length = l.length) ∧ RelTo l zs w 0 w1 :=
  ⟨ys, Lib.hid (by have := h.1; omega), by rw [fill_zero]; exact h, (Below.refl _ _).grown hg (Nat.le_refl _) (by simp)⟩

theorem rel_round {l : List ByteArray} {ys : List Value} {w wr : World} {k : Nat} {x : ByteArray} (h : RelTo l ys w k wr) (hy : Hid (ys.length = l.length)) (hx : l[k]? = some x) :
    ∃ y, wr.cell? ⟨w.heap.size, k, none⟩ = some y ∧ wr.frozen? ⟨w.heap.size, k, none⟩ = false ∧ RelTo l ys w (k + 1) (wr.setCell ⟨w.heap.size, k, none⟩ (.string x)) := by
  have hy' : ys.length = l.length := hy
  have hk := (List.getElem?_eq_some_iff.1 hx).1
  have hlen : (fill (l.map Value.string) ys k).length = l.length := by rw [fill_len _ _ _ (by simpa using hy')]; exact hy'
  have hc := h.1.cellAt k (by omega)
  rw [List.getElem?_eq_getElem (by omega)] at hc
  refine ⟨_, hc, h.1.frozenAt k, ?_, h.2.setCell (Nat.le_refl _) _⟩
  have := (h.1.stored k (.string x)).1
  rw [fill_set _ _ _ _ (by omega) (by rw [List.getElem?_map, hx]; rfl)] at this
  exact this

theorem rel_end {l : List ByteArray} {ys : List Value} {w wr : World} (h : RelTo l ys w l.length wr) (hy : Hid (ys.length = l.length)) :
    wr.ownsRow w.heap.size 9 1 (.slice (some ⟨w.heap.size, 0, none⟩) l.length l.length) l.length (l.map Value.string) ∧ Below w.heap.size w wr := by
  have hy' : ys.length = l.length := hy
  have e := fill_all (l.map Value.string) ys (by simpa using hy')
  rw [List.length_map] at e
  have h1 := h.1
  rw [e] at h1
  exact ⟨h1, h.2⟩

set_option maxHeartbeats 800000 in
/-- eqStringS, where both slices hold the same strings -/
theorem eq_same (A B : Option Addr) (n c d : Nat) (l : List ByteArray) (w : World) (h1 : Strs w A n l) (h2 : Strs w B n l) (hn : n ≤ 9223372036854775807) :
    Calls Try.prog 28 #[.slice A n c, .slice B n d] w fun e w' => e = .returned (.bool true) ∧ DrawnTo w w' := by
  have H1 := Lib.hid h1
  have H2 := Lib.hid h2
  clear h1 h2
  go_enter Try.func28, Try.ntmps28
  go_wp2
  go_loopw [5] (fun i wr => ∃ k : Nat, k ≤ n ∧ i = .int .i64 k ∧ DrawnTo w wr) (fun i _ => n - (intOf i).toNat)
  case atStart => exact ⟨0, Nat.zero_le _, rfl, 0, rfl⟩
  case round =>
    obtain ⟨k, hk, rfl, m, rfl⟩ := hrel
    by_cases hlt : k < n
    · obtain ⟨ad, x, rfl, hx, hc1⟩ := H1.out.at_ hlt
      obtain ⟨bd, y, rfl, hy, hc2⟩ := H2.out.at_ hlt
      obtain rfl : x = y := by rw [hx] at hy; exact Option.some.inj hy
      clear hx hy
      have hb1 : 0 ≤ (k : Int) := by omega
      have hb2 : (k : Int) < n := by omega
      go_wp2_with fail
      go_quiet (fail)
      go_wp2_with fail
      go_roundw
      case rel => exact ⟨k + 1, by omega, by go_num, _, rfl⟩
      case measure => simp [intOf]; omega
    · go_wp2
      go_ret
      exact ⟨rfl, m, rfl⟩
end Go.Proofs.Ytpbbechgpgnpbaa.HelpStr

/- The contracts of the laws' helpers that mark a slice of strings and look whether the marks are held: markText, markStringS, heldStringS. Conditions: the marks begin at 1 or more; the slice is one that the caller has made. -/
namespace Go.Proofs.Ytpbbechgpgnpbaa.MarkStr
set_option linter.unusedVariables false
open Go.RowKit
open Go.Proofs.Ytpbbechgpgnpbaa.Rowed Go.Proofs.Ytpbbechgpgnpbaa.HelpStr

/-- the mark of number k -/
def mt (k : Nat) : ByteArray := ⟨(109 :: Lib.decDigits k).toArray⟩

theorem ext_of {a b : ByteArray} (h : a.data.toList = b.data.toList) : a = b := by
  obtain ⟨⟨x⟩⟩ := a
  obtain ⟨⟨y⟩⟩ := b
  simp at h
  rw [h]
theorem add_str {P : Program} (a b c : ByteArray) (h : a.data.toList ++ b.data.toList = c.data.toList) (hl : c.data.toList.length ≤ 9223372036854775807) (W : World) :
    (Op.stringOp .add a b).run P W = .ok (.string c) W := by
  have e1 : a.data.toList.length = a.size := by simp
  have e2 : b.data.toList.length = b.size := by simp
  rw [← h, List.length_append, e1, e2] at hl
  rw [run_string_add_sum]
  · congr 2
    apply ext_of
    rw [← h]
    simp
  · exact hl
theorem dec_small (j : Nat) (h : j < 10) : Lib.decDigits j = [UInt8.ofNat (48 + j % 10)] := by
  rw [Lib.decDigits_one h, Nat.mod_eq_of_lt h]
theorem dec_step (j : Nat) (h : ¬ j < 10) : Lib.decDigits j = Lib.decDigits (j / 10) ++ [UInt8.ofNat (48 + j % 10)] := by
  rw [Lib.decDigits, dif_neg h]

/-- what is done when j is what is left: o -/
def Rel (k j : Nat) (o : List UInt8) : Prop := (if j = 0 then [] else Lib.decDigits j) ++ o = Lib.decDigits k
theorem Rel.next {k j : Nat} {o : List UInt8} (h : Rel k j o) (hj : 0 < j) : Rel k (j / 10) (UInt8.ofNat (48 + j % 10) :: o) := by
  unfold Rel at h ⊢
  rw [if_neg (by omega)] at h
  by_cases h10 : j < 10
  · rw [if_pos (by omega)]
    rw [dec_small j h10] at h
    exact h
  · rw [if_neg (by omega)]
    rw [dec_step j h10, List.append_assoc] at h
    exact h
theorem Rel.len {k j : Nat} {o : List UInt8} (h : Rel k j o) (hk : k ≤ 1000000000) : o.length ≤ 20 := by
  have h1 := congrArg List.length h
  rw [List.length_append, Lib.decDigits_length] at h1
  have := Lib.nDigits_le20 k (by omega)
  omega
theorem byte_num (j : Nat) : ((UInt8.ofNat (48 + j % 10)).toNat : Int) = 48 + (j : Int) % 10 := by
  rw [UInt8.toNat_ofNat']; omega

theorem conv_one {P : Program} (W : World) (src dst e : TypeId) (c : UInt8) (hs : P.underlying src = some (.slice e)) (he : P.underlying e = some (.int .u8)) (hd : P.underlying dst = some .string) :
    (convert src dst (.slice (some ⟨W.heap.size, 0, none⟩) 1 1)).run P (W.alloc (.cells #[.int .u8 (c.toNat : Int)] e)) = .ok (.string ⟨#[c]⟩) (W.alloc (.cells #[.int .u8 (c.toNat : Int)] e)) := by
  have := run_convert_bytes_back (P := P) (W.alloc (.cells #[.int .u8 (c.toNat : Int)] e)) src dst e ⟨W.heap.size, 0, none⟩ 1 [c] hs he hd (fun j hj => by
    have : j = 0 := by simpa using hj
    subst this
    rw [show (⟨W.heap.size, 0, none⟩ : Addr).add 0 = ⟨W.heap.size, 0, none⟩ from rfl, World.cell?_alloc_new]
    rfl)
  exact this

set_option maxHeartbeats 1000000 in
theorem markText_any (k : Nat) (w : World) (h1 : 1 ≤ k) (h2 : k ≤ 1000000000) :
    Calls Try.prog 73 #[.int .i64 (k : Int)] w fun e w' => e = .returned (.string (mt k)) ∧ Below w.heap.size w w' := by
  have hk0 : decide (k = 0) = false := by simp; omega
  go_enter Try.func73, Try.ntmps73
  go_wp2
  go_loopw [0, 3] (fun t o wr => ∃ (j : Nat) (q : ByteArray), j ≤ k ∧ t = .int .i64 j ∧ o = .string q ∧ Hid (Rel k j q.data.toList) ∧ Hid (Below w.heap.size w wr)) (fun t _ _ => (intOf t).toNat)
  case atStart => exact ⟨k, ⟨#[]⟩, Nat.le_refl _, rfl, rfl, Lib.hid (by unfold Rel; rw [if_neg (by omega)]; simp), Lib.hid (Below.refl _ _)⟩
  case round =>
    obtain ⟨j, q, hjk, rfl, rfl, HR, HB⟩ := hrel
    by_cases hj : 0 < j
    · obtain ⟨ch, hch, HN⟩ : ∃ ch : UInt8, (ch.toNat : Int) = 48 + (j : Int) % 10 ∧ Hid (Rel k (j / 10) (ch :: q.data.toList)) := ⟨_, byte_num j, HR.out.next hj⟩
      have hadd := add_str (P := Try.prog) ⟨#[ch]⟩ q ⟨(ch :: q.data.toList).toArray⟩ rfl (by have := HN.out.len h2; show (ch :: q.data.toList).length ≤ _; omega)
      have hcv := fun W => conv_one (P := Try.prog) W 61 9 5 ch Try.underlying61 Try.underlying5 Try.underlying9
      rw [hch] at hcv
      have HB3 := Lib.hid (HB.out.alloc HB.out.size (.cells #[.int .u8 (48 + (j : Int) % 10)] 5))
      clear hch
      go_wp2
      go_roundw
      case rel => exact ⟨j / 10, _, by omega, by go_num, rfl, HN, HB3⟩
      case measure => simp [intOf]; omega
    · obtain rfl : j = 0 := by omega
      have hfin : q.data.toList = Lib.decDigits k := HR.out
      have HF := Lib.hid hfin
      have hadd := add_str (P := Try.prog) ⟨#[109]⟩ q (mt k) (by unfold mt; rw [hfin]; rfl) (by have := HR.out.len h2; rw [hfin] at this; show (109 :: Lib.decDigits k).length ≤ _; rw [List.length_cons]; omega)
      clear hfin
      go_wp2
      go_ret
      exact ⟨rfl, HB.out⟩

/-- the marks k, k + 1, .. -/
def marks (k n : Nat) : List Value := (List.range n).map fun i => Value.string (mt (k + i))
theorem marks_len (k n : Nat) : (marks k n).length = n := by simp [marks]
theorem marks_at (k n i : Nat) (h : i < n) : (marks k n)[i]? = some (.string (mt (k + i))) := by
  unfold marks; rw [List.getElem?_map, List.getElem?_range h]; rfl
theorem grown_of {W W' : World} (h : Below W.heap.size W W') : W.grownBy W' none := ⟨h.os, h.tape, h.output, h.size, fun k hk _ => h.block k hk⟩
theorem grown_weak {W W' : World} (h : W.grownBy W' none) (g : Nat) : W.grownBy W' (some g) := ⟨h.os, h.tape, h.output, h.size, fun k hk _ => h.block k hk (by simp)⟩
theorem grown_tr {a b c : World} {r : Option Nat} (h : a.grownBy b r) (k : b.grownBy c r) : a.grownBy c r :=
  ⟨k.os.trans h.os, k.tape.trans h.tape, k.output.trans h.output, Nat.le_trans h.size k.size, fun i hi hr => (k.block i (Nat.lt_of_lt_of_le hi h.size) hr).trans (h.block i hi hr)⟩

def MarkRel (w : World) (base g n c k : Nat) (xs : List Value) (i : Nat) (wr : World) : Prop :=
  wr.ownsRow base 9 1 (.slice (some ⟨g, 0, none⟩) n c) n (fill (marks k n) xs i) ∧ w.grownBy wr (some g)

theorem mark_next {w wr w1 : World} {base g n c k i : Nat} {xs : List Value} (h : MarkRel w base g n c k xs i wr) (hb : Below wr.heap.size wr w1) (hxs : xs.length = n) (hi : i < n) :
    ∃ y, w1.cell? ⟨g, i, none⟩ = some y ∧ w1.frozen? ⟨g, i, none⟩ = false ∧ MarkRel w base g n c k xs (i + 1) (w1.setCell ⟨g, i, none⟩ (.string (mt (k + i)))) := by
  have hk := grown_of hb
  have h1 : w1.ownsRow base 9 1 (.slice (some ⟨g, 0, none⟩) n c) n (fill (marks k n) xs i) := h.1.kept hk (.inr (by simp [Value.ownBlock]))
  have hlen : (fill (marks k n) xs i).length = n := by rw [fill_len _ _ _ (by rw [marks_len, hxs])]; exact hxs
  have hc := h1.cellAt i (by omega)
  rw [List.getElem?_eq_getElem (by omega)] at hc
  refine ⟨_, hc, h1.frozenAt i, ?_, ?_⟩
  · have := (h1.stored i (.string (mt (k + i)))).1
    rw [fill_set _ _ _ _ (by omega) (marks_at k n i hi)] at this
    exact this
  · exact grown_tr h.2 (grown_tr (grown_weak hk g) (h1.stored i (.string (mt (k + i)))).2)

def MarkPost (w : World) (base g n c k : Nat) (e : Ending) (w' : World) : Prop :=
  e = .returned (.int .i64 ((k + n : Nat) : Int)) ∧ w'.ownsRow base 9 1 (.slice (some ⟨g, 0, none⟩) n c) n (marks k n) ∧ w.grownBy w' (some g)

set_option maxHeartbeats 1000000 in
theorem mark_any (w : World) (base g n c k : Nat) (xs : List Value) (h : w.ownsRow base 9 1 (.slice (some ⟨g, 0, none⟩) n c) n xs) (hn : n ≤ 1048576) (hk : 1 ≤ k) (hk2 : k ≤ 1048576) :
    Calls Try.prog 30 #[.slice (some ⟨g, 0, none⟩) n c, .int .i64 (k : Int)] w (MarkPost w base g n c k) := by
  have hxs : Hid (xs.length = n) := Lib.hid (by have := h.1; omega)
  have HR0 : Hid (MarkRel w base g n c k xs 0 w) := Lib.hid ⟨by rw [fill_zero]; exact h, ⟨rfl, rfl, rfl, Nat.le_refl _, fun _ _ _ => rfl⟩⟩
  clear h
  go_enter Try.func30, Try.ntmps30
  go_wp2_with fail
  go_loopw [1, 5] (fun t i wr => ∃ j : Nat, j ≤ n ∧ i = .int .i64 j ∧ t = .int .i64 ((k + j : Nat) : Int) ∧ Hid (MarkRel w base g n c k xs j wr)) (fun _ i _ => n - (intOf i).toNat)
  case atStart => exact ⟨0, Nat.zero_le _, rfl, rfl, HR0⟩
  case round =>
    obtain ⟨j, hj, rfl, rfl, HR⟩ := hrel
    by_cases hlt : j < n
    · go_wp2_with (go_at_call 73; refine (markText_any (k + j) wr (by omega) (by omega)).mono ?_; rintro e w1 ⟨rfl, hb⟩; obtain ⟨y, hc, hf, hR1⟩ := mark_next HR.out hb hxs.out hlt; have HR1 := Lib.hid hR1; clear hb hR1)
      go_roundw
      case rel => exact ⟨j + 1, by omega, by go_num, by go_num, HR1⟩
      case measure => simp [intOf]; omega
    · obtain rfl : j = n := by omega
      have HF := Lib.hid HR.out.1
      go_wp2_with fail
      go_ret
      exact ⟨rfl, by rw [← fill_all (marks k j) xs (by rw [marks_len]; exact hxs.out), marks_len]; exact HF.out, HR.out.2⟩

theorem keep_both {w X w1 : World} {a : Addr} {v : Value} (hb : Below X.heap.size X w1) (h : X.cell? a = some v ∧ Below w.heap.size w X) : w1.cell? a = some v ∧ Below w.heap.size w w1 :=
  ⟨cell_below hb h.1, Below.step h.2 hb⟩
def HeldPost (w : World) (k n : Nat) (e : Ending) (w' : World) : Prop := e = .returned (.int .i64 ((k + n : Nat) : Int)) ∧ Below w.heap.size w w'

set_option maxHeartbeats 1000000 in
theorem held_any (w : World) (base g n c k : Nat) (h : w.ownsRow base 9 1 (.slice (some ⟨g, 0, none⟩) n c) n (marks k n)) (hn : n ≤ 1048576) (hk : 1 ≤ k) (hk2 : k ≤ 1048576) :
    Calls Try.prog 31 #[.slice (some ⟨g, 0, none⟩) n c, .int .i64 (k : Int)] w (HeldPost w k n) := by
  have HH : Hid (∀ j, j < n → w.cell? ⟨g, j, none⟩ = some (.string (mt (k + j)))) := Lib.hid fun j hj => by rw [h.cellAt j (by omega), marks_at k n j hj]
  clear h
  go_enter Try.func31, Try.ntmps31
  go_wp2_with fail
  go_loopw [1, 5] (fun t i wr => ∃ j : Nat, j ≤ n ∧ i = .int .i64 j ∧ t = .int .i64 ((k + j : Nat) : Int) ∧ Hid (Below w.heap.size w wr)) (fun _ i _ => n - (intOf i).toNat)
  case atStart => exact ⟨0, Nat.zero_le _, rfl, rfl, Lib.hid (Below.refl _ _)⟩
  case round =>
    obtain ⟨j, hj, rfl, rfl, HB⟩ := hrel
    by_cases hlt : j < n
    · have hcell : wr.cell? ⟨g, j, none⟩ = some (.string (mt (k + j))) := cell_below HB.out (HH.out j hlt)
      have hbel : Below w.heap.size w wr := HB.out
      go_wp2_with fail
      go_region_held3 (fun w' => w'.cell? ⟨g, j, none⟩ = some (.string (mt (k + j))) ∧ Below w.heap.size w w') (first | exact ⟨hcell, hbel.drew⟩ | exact keep_both hb (by assumption) | go_keep)
        (first | (go_at_call 73; refine (markText_any (k + j) _ (by omega) (by omega)).mono ?_; rintro e w1 ⟨rfl, hb⟩))
      rename_i hX
      have HX := Lib.hid hX.2
      clear hX
      go_wp2_with fail
      go_roundw
      case rel => exact ⟨j + 1, by omega, by go_num, by go_num, HX⟩
      case measure => simp [intOf]; omega
    · obtain rfl : j = n := by omega
      go_wp2_with fail
      go_ret
      exact ⟨rfl, HB.out⟩
end Go.Proofs.Ytpbbechgpgnpbaa.MarkStr

/- markText as a plain function, from 1 to a billion; the contract of the program's. No condition. -/
namespace Go.Proofs.Ytpbbechgpgnpbaa.GlMarkText
set_option linter.unusedVariables false
open Go.RowKit
open Go.Proofs.Ytpbbechgpgnpbaa.Turn
def P (k : Int) : Option ByteArray := if 1 ≤ k ∧ k ≤ 1000000000 then some (Go.Proofs.Ytpbbechgpgnpbaa.MarkStr.mt k.toNat) else none
theorem C (k : Int) (w : World) {r : ByteArray} (H : Hid (P k = some r)) : Calls Try.prog 73 #[.int .i64 k] w (Gives (.string r) w) := by
  have h : P k = some r := H
  unfold P at h
  by_cases hk : 1 ≤ k ∧ k ≤ 1000000000
  · rw [if_pos hk] at h
    obtain rfl := Option.some.inj h
    obtain ⟨n, rfl⟩ := Int.eq_ofNat_of_zero_le (show 0 ≤ k by omega)
    exact Go.Proofs.Ytpbbechgpgnpbaa.MarkStr.markText_any n w (by omega) (by omega)
  · rw [if_neg hk] at h; simp at h
end Go.Proofs.Ytpbbechgpgnpbaa.GlMarkText

/- loop.example/g01062/laws.markShadeS as a plain function, and the contract of the program's: where the plain one has an answer, the program has it. Conditions: slices read as lists. -/
namespace Go.Proofs.Ytpbbechgpgnpbaa.GlMarkShadeS
set_option linter.unusedVariables false
set_option linter.unusedSimpArgs false
open Go.RowKit
open Go.Proofs.Ytpbbechgpgnpbaa.Rowed Go.Proofs.Ytpbbechgpgnpbaa.Turn Go.Proofs.Ytpbbechgpgnpbaa.Aid Go.Proofs.Ytpbbechgpgnpbaa.GoP Go.Proofs.Ytpbbechgpgnpbaa.GoM

def l0  (k0 : Nat) (s : (List Go.Proofs.Ytpbbechgpgnpbaa.PShade.Shade) × Int) (nx0 bk0 : (List Go.Proofs.Ytpbbechgpgnpbaa.PShade.Shade) × Int → Option (Int × (List Go.Proofs.Ytpbbechgpgnpbaa.PShade.Shade))) : Option (Int × (List Go.Proofs.Ytpbbechgpgnpbaa.PShade.Shade)) :=
  unp2 s fun a_0l0 k_1l0 =>
  Option.bind (Go.Proofs.Ytpbbechgpgnpbaa.GlMarkText.P k_1l0) fun (t_9 : ByteArray) =>
  Option.bind (idx a_0l0 (k0 : Int)) fun (yt_10 : Go.Proofs.Ytpbbechgpgnpbaa.PShade.Shade) =>
  unShade yt_10 fun (t_10_name : ByteArray) (t_10_hue : Int) (t_10_width : Int) (t_10_dark : Int) (t_10_light : Int) =>
  letK (a_0l0.set k0 (Go.Proofs.Ytpbbechgpgnpbaa.PShade.Shade.mk t_9 t_10_hue t_10_width t_10_dark t_10_light)) fun (l12_12 : (List Go.Proofs.Ytpbbechgpgnpbaa.PShade.Shade)) =>
  letK (IntKind.i64.wrap (k_1l0 + 1)) fun (t_14 : Int) =>
  Option.bind (idx l12_12 (k0 : Int)) fun (yt_19 : Go.Proofs.Ytpbbechgpgnpbaa.PShade.Shade) =>
  unShade yt_19 fun (t_19_name : ByteArray) (t_19_hue : Int) (t_19_width : Int) (t_19_dark : Int) (t_19_light : Int) =>
  letK (l12_12.set k0 (Go.Proofs.Ytpbbechgpgnpbaa.PShade.Shade.mk t_19_name t_14 t_19_width t_19_dark t_19_light)) fun (l21_21 : (List Go.Proofs.Ytpbbechgpgnpbaa.PShade.Shade)) =>
  letK (IntKind.i64.wrap (t_14 + 1)) fun (t_23 : Int) =>
  Option.bind (idx l21_21 (k0 : Int)) fun (yt_28 : Go.Proofs.Ytpbbechgpgnpbaa.PShade.Shade) =>
  unShade yt_28 fun (t_28_name : ByteArray) (t_28_hue : Int) (t_28_width : Int) (t_28_dark : Int) (t_28_light : Int) =>
  letK (l21_21.set k0 (Go.Proofs.Ytpbbechgpgnpbaa.PShade.Shade.mk t_28_name t_28_hue t_23 t_28_dark t_28_light)) fun (l30_30 : (List Go.Proofs.Ytpbbechgpgnpbaa.PShade.Shade)) =>
  letK (IntKind.i64.wrap (t_23 + 1)) fun (t_32 : Int) =>
  Option.bind (idx l30_30 (k0 : Int)) fun (yt_37 : Go.Proofs.Ytpbbechgpgnpbaa.PShade.Shade) =>
  unShade yt_37 fun (t_37_name : ByteArray) (t_37_hue : Int) (t_37_width : Int) (t_37_dark : Int) (t_37_light : Int) =>
  letK (l30_30.set k0 (Go.Proofs.Ytpbbechgpgnpbaa.PShade.Shade.mk t_37_name t_37_hue t_37_width t_32 t_37_light)) fun (l39_39 : (List Go.Proofs.Ytpbbechgpgnpbaa.PShade.Shade)) =>
  letK (IntKind.i64.wrap (t_32 + 1)) fun (t_41 : Int) =>
  Option.bind (idx l39_39 (k0 : Int)) fun (yt_46 : Go.Proofs.Ytpbbechgpgnpbaa.PShade.Shade) =>
  unShade yt_46 fun (t_46_name : ByteArray) (t_46_hue : Int) (t_46_width : Int) (t_46_dark : Int) (t_46_light : Int) =>
  letK (l39_39.set k0 (Go.Proofs.Ytpbbechgpgnpbaa.PShade.Shade.mk t_46_name t_46_hue t_46_width t_46_dark t_41)) fun (l48_48 : (List Go.Proofs.Ytpbbechgpgnpbaa.PShade.Shade)) =>
  letK (IntKind.i64.wrap (t_41 + 1)) fun (t_50 : Int) =>
  appK nx0 (l48_48, t_50)

def e0  (s : (List Go.Proofs.Ytpbbechgpgnpbaa.PShade.Shade) × Int) : Option (Int × (List Go.Proofs.Ytpbbechgpgnpbaa.PShade.Shade)) :=
  unp2 s fun a_0l0 k_1l0 =>
  some (k_1l0, a_0l0)

def P (a : (List Go.Proofs.Ytpbbechgpgnpbaa.PShade.Shade)) (k_1 : Int) : Option (Int × (List Go.Proofs.Ytpbbechgpgnpbaa.PShade.Shade)) :=
  cntK (l0 ) (a.length) 0 (a, k_1) (e0 )

set_option maxRecDepth 100000 in
set_option maxHeartbeats 2000000 in
theorem C (a : (List Go.Proofs.Ytpbbechgpgnpbaa.PShade.Shade)) (k_1 : Int) (A0 : Option Addr) (c0 : Nat)  (b0 : Nat) (w : World) (M0 : Hid (w.ownsRow b0 26 5 (.slice A0 a.length c0) a.length (Go.Proofs.Ytpbbechgpgnpbaa.PShade.flat a))) (N0 : Hid (a.length ≤ 9223372036854775807))  {r : Int} {l_ : (List Go.Proofs.Ytpbbechgpgnpbaa.PShade.Shade)} (H : Hid (P a k_1 = some (r, l_))) :
    Calls Try.prog 29 #[.slice A0 a.length c0, .int .i64 k_1] w (fun e w' => e = .returned (.int .i64 r) ∧ w'.ownsRow b0 26 5 (.slice A0 a.length c0) a.length (Go.Proofs.Ytpbbechgpgnpbaa.PShade.flat l_) ∧ l_.length = a.length ∧ w.grownBy w' (Value.slice A0 a.length c0).ownBlock) := by
  have HB := Lib.hid (Aid.grown_refl w (Value.slice A0 a.length c0).ownBlock)
  unfold P at H
  have N0o := N0.out
  go_enter Try.func29, Try.ntmps29
  go_wp2_with fail
  have hb_0 : a.length ≤ 9223372036854775807 := own_max M0.out
  go_wp2_with fail
  go_loopg [5, 1] (a.length) (fun m_ v5_ v1_ wr => ∃ (k0 : Nat) (a_0l0 : (List Go.Proofs.Ytpbbechgpgnpbaa.PShade.Shade)) (k_1l0 : Int), k0 + m_ = a.length ∧ v5_ = .int .i64 (k0 : Int) ∧ v1_ = .int .i64 k_1l0 ∧ Hid (cntK (l0 ) m_ k0 (a_0l0, k_1l0) (e0 ) = some (r, l_)) ∧ Hid (w.grownBy wr (Value.slice A0 a.length c0).ownBlock) ∧ Hid (wr.ownsRow b0 26 5 (.slice A0 a.length c0) a.length (Go.Proofs.Ytpbbechgpgnpbaa.PShade.flat a_0l0)) ∧ Hid (a_0l0.length = a.length))
  case atStart => exact ⟨0, _, _, by omega, rfl, rfl, H, HB, M0, Lib.hid (rfl)⟩
  case round =>
    obtain ⟨k0, a_0l0, k_1l0, hkm0, rfl, rfl, H, HBwr0, Oa_0l0, hna_0l0⟩ := hrel
    rename World => wr0
    cases gk with
    | zero =>
      obtain rfl : k0 = a.length := by omega
      have hc0 : decide (((a.length : Nat) : Int) < ((a.length : Nat) : Int)) = false := by simp
      replace H := cnt_zero H
      unfold e0 at H
      replace H := unp2_hid H
      cases ret_hid H
      go_wp2_with fail
      go_ret
      exact ⟨rfl, Oa_0l0.out, hna_0l0.out, HBwr0.out⟩
    | succ m0 =>
      have hlt0 : k0 < a.length := by omega
      have hc0 : decide ((k0 : Int) < ((a.length : Nat) : Int)) = true := by simp; omega
      replace H := cnt_succ H
      unfold l0 at H
      replace H := unp2_hid H
      replace H := bind_hid H
      obtain ⟨t_9, qt_9, H⟩ := H
      go_wp2_with fail
      go_at_call 73
      refine (Go.Proofs.Ytpbbechgpgnpbaa.GlMarkText.C (k_1l0)  _    qt_9).mono ?_
      rintro e_t_9 wt_9 ⟨rfl, bt_9⟩
      have HBwt_9 := Lib.hid (grown_below HBwr0.out bt_9)
      replace Oa_0l0 := Lib.hid (own_below Oa_0l0.out bt_9)
      clear bt_9
      replace H := idx_hid H
      obtain ⟨nt_10, yt_10, et_10, lt_10, gt_10, H⟩ := H
      obtain rfl : k0 = nt_10 := by omega
      clear et_10
      obtain ⟨t_10_name, t_10_hue, t_10_width, t_10_dark, t_10_light⟩ := yt_10
      replace H := unShade_hid H
      have hqt_10 := hna_0l0.out
      obtain ⟨qt_10, Qt_10⟩ := own_some Oa_0l0.out (by omega)
      subst Qt_10
      obtain ⟨ab_t_10, ao_t_10, zt_10, At_10, z_t_10, ct_10_0, ct_10_1, ct_10_2, ct_10_3, ct_10_4⟩ := Go.Proofs.Ytpbbechgpgnpbaa.OShade.at_ (own_cells Oa_0l0.out) (k := k0) (by omega)
      obtain rfl := Option.some.inj (gt_10.out.symm.trans z_t_10)
      simp only [Option.some.injEq, Addr.mk.injEq] at At_10
      obtain ⟨rfl, rfl, _⟩ := At_10
      clear z_t_10
      simp only [Nat.zero_add] at ct_10_0 ct_10_1 ct_10_2 ct_10_3 ct_10_4
      have b0t_10 : (0 : Int) ≤ (k0 : Int) := by omega
      have b1t_10 : (k0 : Int) < ((a.length : Nat) : Int) := by omega
      have b2t_10 : ((k0 : Int)).toNat = k0 := by omega
      clear hqt_10
      replace H := let_hid H
      obtain ⟨l12_12, hl12_12, H⟩ := H
      obtain ⟨wl12_12, hwl12_12⟩ : ∃ x, (wt_9).setCell ⟨qt_10, k0 * 5, none⟩ (.string t_9) = x := ⟨_, rfl⟩
      have z0l12_12 := Oa_0l0.out.frozenAt (k0 * 5)
      have Sl12_12 := Lib.hid (own_stores [(k0 * 5, .string t_9)] Oa_0l0.out)
      have nl12_12 : Hid (l12_12.length = a.length) := Lib.hid (by rw [← hl12_12, List.length_set]; exact hna_0l0.out)
      have Pl12_12 : Hid (wl12_12.ownsRow b0 26 5 (.slice (some ⟨qt_10, 0, none⟩) a.length c0) a.length (Go.Proofs.Ytpbbechgpgnpbaa.PShade.flat l12_12)) := Lib.hid (by have es_ := set_self gt_10.out; have e0_ := flat_set Go.Proofs.Ytpbbechgpgnpbaa.PShade.Shade.cells 5 (fun _ => rfl) a_0l0 (k0) 0 (Go.Proofs.Ytpbbechgpgnpbaa.PShade.Shade.mk t_10_name t_10_hue t_10_width t_10_dark t_10_light) (Go.Proofs.Ytpbbechgpgnpbaa.PShade.Shade.mk t_9 t_10_hue t_10_width t_10_dark t_10_light) (.string t_9) lt_10 (by decide) rfl; rw [es_] at e0_; have e_ : ([(k0 * 5, .string t_9)] : List (Nat × Value)).foldl (fun xs p => xs.set p.1 p.2) (Go.Proofs.Ytpbbechgpgnpbaa.PShade.flat a_0l0) = (Go.Proofs.Ytpbbechgpgnpbaa.PShade.flat l12_12) := (by rw [← hl12_12]; show _ = List.flatMap Go.Proofs.Ytpbbechgpgnpbaa.PShade.Shade.cells _; rw [← e0_]; first | done | rfl); rw [← hwl12_12, ← e_]; exact Sl12_12.out.1)
      have Gl12_12 : Hid (wt_9.grownBy wl12_12 (Value.slice (some ⟨qt_10, 0, none⟩) a.length c0).ownBlock) := Lib.hid (by rw [← hwl12_12]; exact Sl12_12.out.2)
      have HBwl12_12 := Lib.hid (Aid.grown_tr HBwt_9.out Gl12_12.out)
      have hhl12_12 := Lib.hid hl12_12
      clear hl12_12 Sl12_12
      clear Oa_0l0 Gl12_12
      replace H := let_hid H
      obtain ⟨t_14, ht_14, H⟩ := H
      replace H := idx_hid H
      obtain ⟨nt_19, yt_19, et_19, lt_19, gt_19, H⟩ := H
      obtain rfl : k0 = nt_19 := by omega
      clear et_19
      obtain ⟨t_19_name, t_19_hue, t_19_width, t_19_dark, t_19_light⟩ := yt_19
      replace H := unShade_hid H
      have hqt_19 := nl12_12.out
      obtain ⟨ab_t_19, ao_t_19, zt_19, At_19, z_t_19, ct_19_0, ct_19_1, ct_19_2, ct_19_3, ct_19_4⟩ := Go.Proofs.Ytpbbechgpgnpbaa.OShade.at_ (own_cells Pl12_12.out) (k := k0) (by omega)
      obtain rfl := Option.some.inj (gt_19.out.symm.trans z_t_19)
      simp only [Option.some.injEq, Addr.mk.injEq] at At_19
      obtain ⟨rfl, rfl, _⟩ := At_19
      clear z_t_19
      simp only [Nat.zero_add] at ct_19_0 ct_19_1 ct_19_2 ct_19_3 ct_19_4
      have b0t_19 : (0 : Int) ≤ (k0 : Int) := by omega
      have b1t_19 : (k0 : Int) < ((a.length : Nat) : Int) := by omega
      have b2t_19 : ((k0 : Int)).toNat = k0 := by omega
      clear hqt_19
      replace H := let_hid H
      obtain ⟨l21_21, hl21_21, H⟩ := H
      obtain ⟨wl21_21, hwl21_21⟩ : ∃ x, (wl12_12).setCell ⟨qt_10, k0 * 5 + 1, none⟩ (.int .i64 t_14) = x := ⟨_, rfl⟩
      have z0l21_21 := Pl12_12.out.frozenAt (k0 * 5 + 1)
      have Sl21_21 := Lib.hid (own_stores [(k0 * 5 + 1, .int .i64 t_14)] Pl12_12.out)
      have nl21_21 : Hid (l21_21.length = a.length) := Lib.hid (by rw [← hl21_21, List.length_set]; exact nl12_12.out)
      have Pl21_21 : Hid (wl21_21.ownsRow b0 26 5 (.slice (some ⟨qt_10, 0, none⟩) a.length c0) a.length (Go.Proofs.Ytpbbechgpgnpbaa.PShade.flat l21_21)) := Lib.hid (by have es_ := set_self gt_19.out; have e0_ := flat_set Go.Proofs.Ytpbbechgpgnpbaa.PShade.Shade.cells 5 (fun _ => rfl) l12_12 (k0) 1 (Go.Proofs.Ytpbbechgpgnpbaa.PShade.Shade.mk t_19_name t_19_hue t_19_width t_19_dark t_19_light) (Go.Proofs.Ytpbbechgpgnpbaa.PShade.Shade.mk t_19_name t_14 t_19_width t_19_dark t_19_light) (.int .i64 t_14) lt_19 (by decide) rfl; rw [es_] at e0_; have e_ : ([(k0 * 5 + 1, .int .i64 t_14)] : List (Nat × Value)).foldl (fun xs p => xs.set p.1 p.2) (Go.Proofs.Ytpbbechgpgnpbaa.PShade.flat l12_12) = (Go.Proofs.Ytpbbechgpgnpbaa.PShade.flat l21_21) := (by rw [← hl21_21]; show _ = List.flatMap Go.Proofs.Ytpbbechgpgnpbaa.PShade.Shade.cells _; rw [← e0_]; first | done | rfl); rw [← hwl21_21, ← e_]; exact Sl21_21.out.1)
      have Gl21_21 : Hid (wl12_12.grownBy wl21_21 (Value.slice (some ⟨qt_10, 0, none⟩) a.length c0).ownBlock) := Lib.hid (by rw [← hwl21_21]; exact Sl21_21.out.2)
      have HBwl21_21 := Lib.hid (Aid.grown_tr HBwl12_12.out Gl21_21.out)
      have hhl21_21 := Lib.hid hl21_21
      clear hl21_21 Sl21_21
      clear Pl12_12 Gl21_21
      replace H := let_hid H
      obtain ⟨t_23, ht_23, H⟩ := H
      replace H := idx_hid H
      obtain ⟨nt_28, yt_28, et_28, lt_28, gt_28, H⟩ := H
      obtain rfl : k0 = nt_28 := by omega
      clear et_28
      obtain ⟨t_28_name, t_28_hue, t_28_width, t_28_dark, t_28_light⟩ := yt_28
      replace H := unShade_hid H
      have hqt_28 := nl21_21.out
      obtain ⟨ab_t_28, ao_t_28, zt_28, At_28, z_t_28, ct_28_0, ct_28_1, ct_28_2, ct_28_3, ct_28_4⟩ := Go.Proofs.Ytpbbechgpgnpbaa.OShade.at_ (own_cells Pl21_21.out) (k := k0) (by omega)
      obtain rfl := Option.some.inj (gt_28.out.symm.trans z_t_28)
      simp only [Option.some.injEq, Addr.mk.injEq] at At_28
      obtain ⟨rfl, rfl, _⟩ := At_28
      clear z_t_28
      simp only [Nat.zero_add] at ct_28_0 ct_28_1 ct_28_2 ct_28_3 ct_28_4
      have b0t_28 : (0 : Int) ≤ (k0 : Int) := by omega
      have b1t_28 : (k0 : Int) < ((a.length : Nat) : Int) := by omega
      have b2t_28 : ((k0 : Int)).toNat = k0 := by omega
      clear hqt_28
      replace H := let_hid H
      obtain ⟨l30_30, hl30_30, H⟩ := H
      obtain ⟨wl30_30, hwl30_30⟩ : ∃ x, (wl21_21).setCell ⟨qt_10, k0 * 5 + 2, none⟩ (.int .i64 t_23) = x := ⟨_, rfl⟩
      have z0l30_30 := Pl21_21.out.frozenAt (k0 * 5 + 2)
      have Sl30_30 := Lib.hid (own_stores [(k0 * 5 + 2, .int .i64 t_23)] Pl21_21.out)
      have nl30_30 : Hid (l30_30.length = a.length) := Lib.hid (by rw [← hl30_30, List.length_set]; exact nl21_21.out)
      have Pl30_30 : Hid (wl30_30.ownsRow b0 26 5 (.slice (some ⟨qt_10, 0, none⟩) a.length c0) a.length (Go.Proofs.Ytpbbechgpgnpbaa.PShade.flat l30_30)) := Lib.hid (by have es_ := set_self gt_28.out; have e0_ := flat_set Go.Proofs.Ytpbbechgpgnpbaa.PShade.Shade.cells 5 (fun _ => rfl) l21_21 (k0) 2 (Go.Proofs.Ytpbbechgpgnpbaa.PShade.Shade.mk t_28_name t_28_hue t_28_width t_28_dark t_28_light) (Go.Proofs.Ytpbbechgpgnpbaa.PShade.Shade.mk t_28_name t_28_hue t_23 t_28_dark t_28_light) (.int .i64 t_23) lt_28 (by decide) rfl; rw [es_] at e0_; have e_ : ([(k0 * 5 + 2, .int .i64 t_23)] : List (Nat × Value)).foldl (fun xs p => xs.set p.1 p.2) (Go.Proofs.Ytpbbechgpgnpbaa.PShade.flat l21_21) = (Go.Proofs.Ytpbbechgpgnpbaa.PShade.flat l30_30) := (by rw [← hl30_30]; show _ = List.flatMap Go.Proofs.Ytpbbechgpgnpbaa.PShade.Shade.cells _; rw [← e0_]; first | done | rfl); rw [← hwl30_30, ← e_]; exact Sl30_30.out.1)
      have Gl30_30 : Hid (wl21_21.grownBy wl30_30 (Value.slice (some ⟨qt_10, 0, none⟩) a.length c0).ownBlock) := Lib.hid (by rw [← hwl30_30]; exact Sl30_30.out.2)
      have HBwl30_30 := Lib.hid (Aid.grown_tr HBwl21_21.out Gl30_30.out)
      have hhl30_30 := Lib.hid hl30_30
      clear hl30_30 Sl30_30
      clear Pl21_21 Gl30_30
      replace H := let_hid H
      obtain ⟨t_32, ht_32, H⟩ := H
      replace H := idx_hid H
      obtain ⟨nt_37, yt_37, et_37, lt_37, gt_37, H⟩ := H
      obtain rfl : k0 = nt_37 := by omega
      clear et_37
      obtain ⟨t_37_name, t_37_hue, t_37_width, t_37_dark, t_37_light⟩ := yt_37
      replace H := unShade_hid H
      have hqt_37 := nl30_30.out
      obtain ⟨ab_t_37, ao_t_37, zt_37, At_37, z_t_37, ct_37_0, ct_37_1, ct_37_2, ct_37_3, ct_37_4⟩ := Go.Proofs.Ytpbbechgpgnpbaa.OShade.at_ (own_cells Pl30_30.out) (k := k0) (by omega)
      obtain rfl := Option.some.inj (gt_37.out.symm.trans z_t_37)
      simp only [Option.some.injEq, Addr.mk.injEq] at At_37
      obtain ⟨rfl, rfl, _⟩ := At_37
      clear z_t_37
      simp only [Nat.zero_add] at ct_37_0 ct_37_1 ct_37_2 ct_37_3 ct_37_4
      have b0t_37 : (0 : Int) ≤ (k0 : Int) := by omega
      have b1t_37 : (k0 : Int) < ((a.length : Nat) : Int) := by omega
      have b2t_37 : ((k0 : Int)).toNat = k0 := by omega
      clear hqt_37
      replace H := let_hid H
      obtain ⟨l39_39, hl39_39, H⟩ := H
      obtain ⟨wl39_39, hwl39_39⟩ : ∃ x, (wl30_30).setCell ⟨qt_10, k0 * 5 + 3, none⟩ (.int .i64 t_32) = x := ⟨_, rfl⟩
      have z0l39_39 := Pl30_30.out.frozenAt (k0 * 5 + 3)
      have Sl39_39 := Lib.hid (own_stores [(k0 * 5 + 3, .int .i64 t_32)] Pl30_30.out)
      have nl39_39 : Hid (l39_39.length = a.length) := Lib.hid (by rw [← hl39_39, List.length_set]; exact nl30_30.out)
      have Pl39_39 : Hid (wl39_39.ownsRow b0 26 5 (.slice (some ⟨qt_10, 0, none⟩) a.length c0) a.length (Go.Proofs.Ytpbbechgpgnpbaa.PShade.flat l39_39)) := Lib.hid (by have es_ := set_self gt_37.out; have e0_ := flat_set Go.Proofs.Ytpbbechgpgnpbaa.PShade.Shade.cells 5 (fun _ => rfl) l30_30 (k0) 3 (Go.Proofs.Ytpbbechgpgnpbaa.PShade.Shade.mk t_37_name t_37_hue t_37_width t_37_dark t_37_light) (Go.Proofs.Ytpbbechgpgnpbaa.PShade.Shade.mk t_37_name t_37_hue t_37_width t_32 t_37_light) (.int .i64 t_32) lt_37 (by decide) rfl; rw [es_] at e0_; have e_ : ([(k0 * 5 + 3, .int .i64 t_32)] : List (Nat × Value)).foldl (fun xs p => xs.set p.1 p.2) (Go.Proofs.Ytpbbechgpgnpbaa.PShade.flat l30_30) = (Go.Proofs.Ytpbbechgpgnpbaa.PShade.flat l39_39) := (by rw [← hl39_39]; show _ = List.flatMap Go.Proofs.Ytpbbechgpgnpbaa.PShade.Shade.cells _; rw [← e0_]; first | done | rfl); rw [← hwl39_39, ← e_]; exact Sl39_39.out.1)
      have Gl39_39 : Hid (wl30_30.grownBy wl39_39 (Value.slice (some ⟨qt_10, 0, none⟩) a.length c0).ownBlock) := Lib.hid (by rw [← hwl39_39]; exact Sl39_39.out.2)
      have HBwl39_39 := Lib.hid (Aid.grown_tr HBwl30_30.out Gl39_39.out)
      have hhl39_39 := Lib.hid hl39_39
      clear hl39_39 Sl39_39
      clear Pl30_30 Gl39_39
      replace H := let_hid H
      obtain ⟨t_41, ht_41, H⟩ := H
      replace H := idx_hid H
      obtain ⟨nt_46, yt_46, et_46, lt_46, gt_46, H⟩ := H
      obtain rfl : k0 = nt_46 := by omega
      clear et_46
      obtain ⟨t_46_name, t_46_hue, t_46_width, t_46_dark, t_46_light⟩ := yt_46
      replace H := unShade_hid H
      have hqt_46 := nl39_39.out
      obtain ⟨ab_t_46, ao_t_46, zt_46, At_46, z_t_46, ct_46_0, ct_46_1, ct_46_2, ct_46_3, ct_46_4⟩ := Go.Proofs.Ytpbbechgpgnpbaa.OShade.at_ (own_cells Pl39_39.out) (k := k0) (by omega)
      obtain rfl := Option.some.inj (gt_46.out.symm.trans z_t_46)
      simp only [Option.some.injEq, Addr.mk.injEq] at At_46
      obtain ⟨rfl, rfl, _⟩ := At_46
      clear z_t_46
      simp only [Nat.zero_add] at ct_46_0 ct_46_1 ct_46_2 ct_46_3 ct_46_4
      have b0t_46 : (0 : Int) ≤ (k0 : Int) := by omega
      have b1t_46 : (k0 : Int) < ((a.length : Nat) : Int) := by omega
      have b2t_46 : ((k0 : Int)).toNat = k0 := by omega
      clear hqt_46
      replace H := let_hid H
      obtain ⟨l48_48, hl48_48, H⟩ := H
      obtain ⟨wl48_48, hwl48_48⟩ : ∃ x, (wl39_39).setCell ⟨qt_10, k0 * 5 + 4, none⟩ (.int .i64 t_41) = x := ⟨_, rfl⟩
      have z0l48_48 := Pl39_39.out.frozenAt (k0 * 5 + 4)
      have Sl48_48 := Lib.hid (own_stores [(k0 * 5 + 4, .int .i64 t_41)] Pl39_39.out)
      have nl48_48 : Hid (l48_48.length = a.length) := Lib.hid (by rw [← hl48_48, List.length_set]; exact nl39_39.out)
      have Pl48_48 : Hid (wl48_48.ownsRow b0 26 5 (.slice (some ⟨qt_10, 0, none⟩) a.length c0) a.length (Go.Proofs.Ytpbbechgpgnpbaa.PShade.flat l48_48)) := Lib.hid (by have es_ := set_self gt_46.out; have e0_ := flat_set Go.Proofs.Ytpbbechgpgnpbaa.PShade.Shade.cells 5 (fun _ => rfl) l39_39 (k0) 4 (Go.Proofs.Ytpbbechgpgnpbaa.PShade.Shade.mk t_46_name t_46_hue t_46_width t_46_dark t_46_light) (Go.Proofs.Ytpbbechgpgnpbaa.PShade.Shade.mk t_46_name t_46_hue t_46_width t_46_dark t_41) (.int .i64 t_41) lt_46 (by decide) rfl; rw [es_] at e0_; have e_ : ([(k0 * 5 + 4, .int .i64 t_41)] : List (Nat × Value)).foldl (fun xs p => xs.set p.1 p.2) (Go.Proofs.Ytpbbechgpgnpbaa.PShade.flat l39_39) = (Go.Proofs.Ytpbbechgpgnpbaa.PShade.flat l48_48) := (by rw [← hl48_48]; show _ = List.flatMap Go.Proofs.Ytpbbechgpgnpbaa.PShade.Shade.cells _; rw [← e0_]; first | done | rfl); rw [← hwl48_48, ← e_]; exact Sl48_48.out.1)
      have Gl48_48 : Hid (wl39_39.grownBy wl48_48 (Value.slice (some ⟨qt_10, 0, none⟩) a.length c0).ownBlock) := Lib.hid (by rw [← hwl48_48]; exact Sl48_48.out.2)
      have HBwl48_48 := Lib.hid (Aid.grown_tr HBwl39_39.out Gl48_48.out)
      have hhl48_48 := Lib.hid hl48_48
      clear hl48_48 Sl48_48
      clear Pl39_39 Gl48_48
      replace H := let_hid H
      obtain ⟨t_50, ht_50, H⟩ := H
      replace H := app_hid H
      go_wp2_with fail
      clear z0l12_12 ct_10_0 ct_10_1 ct_10_2 ct_10_3 ct_10_4 z0l21_21 ct_19_0 ct_19_1 ct_19_2 ct_19_3 ct_19_4 z0l30_30 ct_28_0 ct_28_1 ct_28_2 ct_28_3 ct_28_4 z0l39_39 ct_37_0 ct_37_1 ct_37_2 ct_37_3 ct_37_4 z0l48_48 ct_46_0 ct_46_1 ct_46_2 ct_46_3 ct_46_4
      go_roundg m0
      case measure => omega
      case rel => exact ⟨k0 + 1, _, _, by omega, by go_num, rfl, H, HBwl48_48, Pl48_48, Lib.hid (nl48_48.out)⟩
end Go.Proofs.Ytpbbechgpgnpbaa.GlMarkShadeS

/- loop.example/g01062/laws.markStringS as a plain function, and the contract of the program's: where the plain one has an answer, the program has it. Conditions: slices read as lists. -/
namespace Go.Proofs.Ytpbbechgpgnpbaa.GlMarkStringS
set_option linter.unusedVariables false
set_option linter.unusedSimpArgs false
open Go.RowKit
open Go.Proofs.Ytpbbechgpgnpbaa.Rowed Go.Proofs.Ytpbbechgpgnpbaa.Turn Go.Proofs.Ytpbbechgpgnpbaa.Aid Go.Proofs.Ytpbbechgpgnpbaa.GoP Go.Proofs.Ytpbbechgpgnpbaa.GoM

def l0  (k0 : Nat) (s : (List ByteArray) × Int) (nx0 bk0 : (List ByteArray) × Int → Option (Int × (List ByteArray))) : Option (Int × (List ByteArray)) :=
  unp2 s fun a_0l0 k_1l0 =>
  Option.bind (Go.Proofs.Ytpbbechgpgnpbaa.GlMarkText.P k_1l0) fun (t_9 : ByteArray) =>
  Option.bind (idx a_0l0 (k0 : Int)) fun (yt_10 : ByteArray) =>
  letK (a_0l0.set k0 t_9) fun (l11_11 : (List ByteArray)) =>
  letK (IntKind.i64.wrap (k_1l0 + 1)) fun (t_13 : Int) =>
  appK nx0 (l11_11, t_13)

def e0  (s : (List ByteArray) × Int) : Option (Int × (List ByteArray)) :=
  unp2 s fun a_0l0 k_1l0 =>
  some (k_1l0, a_0l0)

def P (a : (List ByteArray)) (k_1 : Int) : Option (Int × (List ByteArray)) :=
  cntK (l0 ) (a.length) 0 (a, k_1) (e0 )

set_option maxRecDepth 100000 in
set_option maxHeartbeats 2000000 in
theorem C (a : (List ByteArray)) (k_1 : Int) (A0 : Option Addr) (c0 : Nat)  (b0 : Nat) (w : World) (M0 : Hid (w.ownsRow b0 9 1 (.slice A0 a.length c0) a.length (a.map Value.string))) (N0 : Hid (a.length ≤ 9223372036854775807))  {r : Int} {l_ : (List ByteArray)} (H : Hid (P a k_1 = some (r, l_))) :
    Calls Try.prog 30 #[.slice A0 a.length c0, .int .i64 k_1] w (fun e w' => e = .returned (.int .i64 r) ∧ w'.ownsRow b0 9 1 (.slice A0 a.length c0) a.length (l_.map Value.string) ∧ l_.length = a.length ∧ w.grownBy w' (Value.slice A0 a.length c0).ownBlock) := by
  have HB := Lib.hid (Aid.grown_refl w (Value.slice A0 a.length c0).ownBlock)
  unfold P at H
  have N0o := N0.out
  go_enter Try.func30, Try.ntmps30
  go_wp2_with fail
  have hb_0 : a.length ≤ 9223372036854775807 := own_max M0.out
  go_wp2_with fail
  go_loopg [5, 1] (a.length) (fun m_ v5_ v1_ wr => ∃ (k0 : Nat) (a_0l0 : (List ByteArray)) (k_1l0 : Int), k0 + m_ = a.length ∧ v5_ = .int .i64 (k0 : Int) ∧ v1_ = .int .i64 k_1l0 ∧ Hid (cntK (l0 ) m_ k0 (a_0l0, k_1l0) (e0 ) = some (r, l_)) ∧ Hid (w.grownBy wr (Value.slice A0 a.length c0).ownBlock) ∧ Hid (wr.ownsRow b0 9 1 (.slice A0 a.length c0) a.length (a_0l0.map Value.string)) ∧ Hid (a_0l0.length = a.length))
  case atStart => exact ⟨0, _, _, by omega, rfl, rfl, H, HB, M0, Lib.hid (rfl)⟩
  case round =>
    obtain ⟨k0, a_0l0, k_1l0, hkm0, rfl, rfl, H, HBwr0, Oa_0l0, hna_0l0⟩ := hrel
    rename World => wr0
    cases gk with
    | zero =>
      obtain rfl : k0 = a.length := by omega
      have hc0 : decide (((a.length : Nat) : Int) < ((a.length : Nat) : Int)) = false := by simp
      replace H := cnt_zero H
      unfold e0 at H
      replace H := unp2_hid H
      cases ret_hid H
      go_wp2_with fail
      go_ret
      exact ⟨rfl, Oa_0l0.out, hna_0l0.out, HBwr0.out⟩
    | succ m0 =>
      have hlt0 : k0 < a.length := by omega
      have hc0 : decide ((k0 : Int) < ((a.length : Nat) : Int)) = true := by simp; omega
      replace H := cnt_succ H
      unfold l0 at H
      replace H := unp2_hid H
      replace H := bind_hid H
      obtain ⟨t_9, qt_9, H⟩ := H
      go_wp2_with fail
      go_at_call 73
      refine (Go.Proofs.Ytpbbechgpgnpbaa.GlMarkText.C (k_1l0)  _    qt_9).mono ?_
      rintro e_t_9 wt_9 ⟨rfl, bt_9⟩
      have HBwt_9 := Lib.hid (grown_below HBwr0.out bt_9)
      replace Oa_0l0 := Lib.hid (own_below Oa_0l0.out bt_9)
      clear bt_9
      replace H := idx_hid H
      obtain ⟨nt_10, yt_10, et_10, lt_10, gt_10, H⟩ := H
      obtain rfl : k0 = nt_10 := by omega
      clear et_10
      have hqt_10 := hna_0l0.out
      obtain ⟨qt_10, Qt_10⟩ := own_some Oa_0l0.out (by omega)
      subst Qt_10
      obtain ⟨ab_t_10, ao_t_10, zt_10, At_10, z_t_10, ct_10_0⟩ := strs_at (own_cells Oa_0l0.out) (k := k0) (by omega)
      obtain rfl := Option.some.inj (gt_10.out.symm.trans z_t_10)
      simp only [Option.some.injEq, Addr.mk.injEq] at At_10
      obtain ⟨rfl, rfl, _⟩ := At_10
      clear z_t_10
      simp only [Nat.zero_add] at ct_10_0
      have b0t_10 : (0 : Int) ≤ (k0 : Int) := by omega
      have b1t_10 : (k0 : Int) < ((a.length : Nat) : Int) := by omega
      have b2t_10 : ((k0 : Int)).toNat = k0 := by omega
      clear hqt_10
      replace H := let_hid H
      obtain ⟨l11_11, hl11_11, H⟩ := H
      obtain ⟨wl11_11, hwl11_11⟩ : ∃ x, (wt_9).setCell ⟨qt_10, k0, none⟩ (.string t_9) = x := ⟨_, rfl⟩
      have z0l11_11 := Oa_0l0.out.frozenAt (k0)
      have Sl11_11 := Lib.hid (own_stores [(k0, .string t_9)] Oa_0l0.out)
      have nl11_11 : Hid (l11_11.length = a.length) := Lib.hid (by rw [← hl11_11, List.length_set]; exact hna_0l0.out)
      have Pl11_11 : Hid (wl11_11.ownsRow b0 9 1 (.slice (some ⟨qt_10, 0, none⟩) a.length c0) a.length (l11_11.map Value.string)) := Lib.hid (by have e_ : ([(k0, .string t_9)] : List (Nat × Value)).foldl (fun xs p => xs.set p.1 p.2) (a_0l0.map Value.string) = (l11_11.map Value.string) := (by rw [← hl11_11]; first | done | simp [List.map_set]); rw [← hwl11_11, ← e_]; exact Sl11_11.out.1)
      have Gl11_11 : Hid (wt_9.grownBy wl11_11 (Value.slice (some ⟨qt_10, 0, none⟩) a.length c0).ownBlock) := Lib.hid (by rw [← hwl11_11]; exact Sl11_11.out.2)
      have HBwl11_11 := Lib.hid (Aid.grown_tr HBwt_9.out Gl11_11.out)
      have hhl11_11 := Lib.hid hl11_11
      clear hl11_11 Sl11_11
      clear Oa_0l0 Gl11_11
      replace H := let_hid H
      obtain ⟨t_13, ht_13, H⟩ := H
      replace H := app_hid H
      go_wp2_with fail
      clear z0l11_11 ct_10_0
      go_roundg m0
      case measure => omega
      case rel => exact ⟨k0 + 1, _, _, by omega, by go_num, rfl, H, HBwl11_11, Pl11_11, Lib.hid (nl11_11.out)⟩
end Go.Proofs.Ytpbbechgpgnpbaa.GlMarkStringS

/- loop.example/g01062/laws.markStringSS as a plain function, and the contract of the program's: where the plain one has an answer, the program has it. Conditions: slices read as lists. -/
namespace Go.Proofs.Ytpbbechgpgnpbaa.GlMarkStringSS
set_option linter.unusedVariables false
set_option linter.unusedSimpArgs false
open Go.RowKit
open Go.Proofs.Ytpbbechgpgnpbaa.Rowed Go.Proofs.Ytpbbechgpgnpbaa.Turn Go.Proofs.Ytpbbechgpgnpbaa.Aid Go.Proofs.Ytpbbechgpgnpbaa.GoP Go.Proofs.Ytpbbechgpgnpbaa.GoM

def l0  (k0 : Nat) (s : (List (List ByteArray)) × Int) (nx0 bk0 : (List (List ByteArray)) × Int → Option (Int × (List (List ByteArray)))) : Option (Int × (List (List ByteArray))) :=
  unp2 s fun a_0l0 k_1l0 =>
  Option.bind (idx a_0l0 (k0 : Int)) fun (yt_8 : (List ByteArray)) =>
  bind2 (Go.Proofs.Ytpbbechgpgnpbaa.GlMarkStringS.P yt_8 k_1l0) fun (t_11 : Int) (lt_11 : (List ByteArray)) =>
  letK (a_0l0.set k0 lt_11) fun (nnt_11 : (List (List ByteArray))) =>
  appK nx0 (nnt_11, t_11)

def e0  (s : (List (List ByteArray)) × Int) : Option (Int × (List (List ByteArray))) :=
  unp2 s fun a_0l0 k_1l0 =>
  some (k_1l0, a_0l0)

def P (a : (List (List ByteArray))) (k_1 : Int) : Option (Int × (List (List ByteArray))) :=
  cntK (l0 ) (a.length) 0 (a, k_1) (e0 )

set_option maxRecDepth 100000 in
set_option maxHeartbeats 2000000 in
theorem C (a : (List (List ByteArray))) (k_1 : Int) (A0 : Option Addr) (c0 : Nat)  (b0 : Nat) (B0 : List (Option Addr)) (w : World) (M0 : Hid (Go.Proofs.Ytpbbechgpgnpbaa.GoN.OwnNest w (b0) 39 9 1 (fun z_ => z_.map Value.string) A0 c0 a B0)) (N0 : Hid (a.length ≤ 9223372036854775807))  {r : Int} {l_ : (List (List ByteArray))} (H : Hid (P a k_1 = some (r, l_))) :
    Calls Try.prog 39 #[.slice A0 a.length c0, .int .i64 k_1] w (fun e w' => e = .returned (.int .i64 r) ∧ Go.Proofs.Ytpbbechgpgnpbaa.GoN.OwnNest w' (b0) 39 9 1 (fun z_ => z_.map Value.string) A0 c0 l_ B0 ∧ l_.length = a.length ∧ Go.Proofs.Ytpbbechgpgnpbaa.GoN.GrownN w w' B0) := by
  have HB := Lib.hid (Go.Proofs.Ytpbbechgpgnpbaa.GoN.grownN_refl w B0)
  unfold P at H
  have N0o := N0.out
  go_enter Try.func39, Try.ntmps39
  go_wp2_with fail
  have hb_0 : a.length ≤ 9223372036854775807 := Go.Proofs.Ytpbbechgpgnpbaa.GoN.nest_max M0.out
  go_wp2_with fail
  go_loopg [5, 1] (a.length) (fun m_ v5_ v1_ wr => ∃ (k0 : Nat) (a_0l0 : (List (List ByteArray))) (k_1l0 : Int), k0 + m_ = a.length ∧ v5_ = .int .i64 (k0 : Int) ∧ v1_ = .int .i64 k_1l0 ∧ Hid (cntK (l0 ) m_ k0 (a_0l0, k_1l0) (e0 ) = some (r, l_)) ∧ Hid (Go.Proofs.Ytpbbechgpgnpbaa.GoN.GrownN w wr B0) ∧ Hid (Go.Proofs.Ytpbbechgpgnpbaa.GoN.OwnNest wr (b0) 39 9 1 (fun z_ => z_.map Value.string) A0 c0 a_0l0 B0) ∧ Hid (a_0l0.length = a.length))
  case atStart => exact ⟨0, _, _, by omega, rfl, rfl, H, HB, M0, Lib.hid (rfl)⟩
  case round =>
    obtain ⟨k0, a_0l0, k_1l0, hkm0, rfl, rfl, H, HBwr0, Oa_0l0, hna_0l0⟩ := hrel
    rename World => wr0
    cases gk with
    | zero =>
      obtain rfl : k0 = a.length := by omega
      have hc0 : decide (((a.length : Nat) : Int) < ((a.length : Nat) : Int)) = false := by simp
      replace H := cnt_zero H
      unfold e0 at H
      replace H := unp2_hid H
      cases ret_hid H
      go_wp2_with fail
      go_ret
      exact ⟨rfl, Oa_0l0.out, hna_0l0.out, HBwr0.out⟩
    | succ m0 =>
      have hlt0 : k0 < a.length := by omega
      have hc0 : decide ((k0 : Int) < ((a.length : Nat) : Int)) = true := by simp; omega
      replace H := cnt_succ H
      unfold l0 at H
      replace H := unp2_hid H
      replace H := idx_hid H
      obtain ⟨nt_8, yt_8, et_8, lt_8, gt_8, H⟩ := H
      obtain rfl : k0 = nt_8 := by omega
      clear et_8
      obtain ⟨gt_8_, zt_8, Art_8, crt_8, eAt_8, zzt_8, hct_8, hot_8, hmt_8, hat_8⟩ := Go.Proofs.Ytpbbechgpgnpbaa.GoN.nest_own Oa_0l0.out (k := k0) lt_8
      obtain rfl := Option.some.inj (gt_8.out.symm.trans zzt_8)
      clear zzt_8
      subst eAt_8
      have Ort_8 := Lib.hid hot_8
      have mrt_8 := Lib.hid hmt_8
      clear hot_8 hmt_8 hat_8
      have b0t_8 : (0 : Int) ≤ (k0 : Int) := by omega
      have b1t_8 : (k0 : Int) < ((a_0l0.length : Nat) : Int) := by omega
      have b2t_8 : ((k0 : Int)).toNat = k0 := by omega
      have hqt_8 := hna_0l0.out
      have b3t_8 : (k0 : Int) < ((a.length : Nat) : Int) := by omega
      clear hqt_8
      replace H := bind2_hid H
      obtain ⟨t_11, lt_11, qt_11, H⟩ := H
      go_wp2_with fail
      go_at_call 30
      refine (Go.Proofs.Ytpbbechgpgnpbaa.GlMarkStringS.C (yt_8) (k_1l0) Art_8 crt_8 b0 _   Ort_8 (Lib.hid (own_max Ort_8.out))   qt_11).mono ?_
      rintro e_t_11 wt_11 ⟨rfl, ot_11, nt_11, gt_11⟩
      have Pt_11 := Lib.hid ot_11
      have Gt_11 := Lib.hid gt_11
      replace nt_11 := Lib.hid nt_11
      clear ot_11 gt_11
      have HBwt_11 := Lib.hid (Go.Proofs.Ytpbbechgpgnpbaa.GoN.grownN_row HBwr0.out Gt_11.out mrt_8.out)
      replace H := let_hid H
      obtain ⟨nnt_11, hnnt_11, H⟩ := H
      have Nt_11 : Hid (Go.Proofs.Ytpbbechgpgnpbaa.GoN.OwnNest wt_11 (b0) 39 9 1 (fun z_ => z_.map Value.string) (some ⟨gt_8_, 0, none⟩) c0 nnt_11 B0) := Lib.hid (by rw [← hnnt_11]; exact Go.Proofs.Ytpbbechgpgnpbaa.GoN.nest_store (k := k0) Oa_0l0.out gt_8.out hct_8 Pt_11.out nt_11.out rfl Gt_11.out)
      have mt_11 : Hid (nnt_11.length = a.length) := Lib.hid (by rw [← hnnt_11, List.length_set]; exact hna_0l0.out)
      have hhnnt_11 := Lib.hid hnnt_11
      clear hnnt_11
      clear hct_8
      clear Oa_0l0
      clear Ort_8 Gt_11
      replace H := app_hid H
      go_wp2_with fail
      go_roundg m0
      case measure => omega
      case rel => exact ⟨k0 + 1, _, _, by omega, by go_num, rfl, H, HBwt_11, Nt_11, Lib.hid (mt_11.out)⟩
end Go.Proofs.Ytpbbechgpgnpbaa.GlMarkStringSS

/- loop.example/g01062/laws.heldStringS as a plain function, and the contract of the program's: where the plain one has an answer, the program has it. Conditions: slices read as lists. -/
namespace Go.Proofs.Ytpbbechgpgnpbaa.GlHeldStringS
set_option linter.unusedVariables false
set_option linter.unusedSimpArgs false
open Go.RowKit
open Go.Proofs.Ytpbbechgpgnpbaa.Rowed Go.Proofs.Ytpbbechgpgnpbaa.Turn Go.Proofs.Ytpbbechgpgnpbaa.Aid Go.Proofs.Ytpbbechgpgnpbaa.GoP Go.Proofs.Ytpbbechgpgnpbaa.GoM

def l0 (a : (List ByteArray)) (k0 : Nat) (s : Int) (nx0 bk0 : Int → Option (Int)) : Option (Int) :=
  letK s fun k_1l0 =>
  Option.bind (idx a (k0 : Int)) fun (yt_8 : ByteArray) =>
  Option.bind (Go.Proofs.Ytpbbechgpgnpbaa.GlMarkText.P k_1l0) fun (t_11 : ByteArray) =>
  letK (!(yt_8.toList == t_11.toList)) fun (t_12 : Bool) =>
  iteK t_12
  (some (-1))
  (letK (IntKind.i64.wrap (k_1l0 + 1)) fun (t_15 : Int) =>
  appK nx0 (t_15))

def e0  (s : Int) : Option (Int) :=
  letK s fun k_1l0 =>
  some k_1l0

def P (a : (List ByteArray)) (k_1 : Int) : Option (Int) :=
  cntK (l0 a) (a.length) 0 (k_1) (e0 )

set_option maxRecDepth 100000 in
set_option maxHeartbeats 2000000 in
theorem C (a : (List ByteArray)) (k_1 : Int) (A0 : Option Addr) (c0 : Nat)  (w : World) (M0 : Hid (Cells w 1 A0 a.length (a.map Value.string))) (N0 : Hid (a.length ≤ 9223372036854775807))  {r : Int} (H : Hid (P a k_1 = some r)) :
    Calls Try.prog 31 #[.slice A0 a.length c0, .int .i64 k_1] w (Gives (.int .i64 r) w) := by
  have HB := Lib.hid (Below.refl w.heap.size w)
  unfold P at H
  have N0o := N0.out
  go_enter Try.func31, Try.ntmps31
  go_wp2_with fail
  go_loopg [5, 1] (a.length) (fun m_ v5_ v1_ wr => ∃ (k0 : Nat) (k_1l0 : Int), k0 + m_ = a.length ∧ v5_ = .int .i64 (k0 : Int) ∧ v1_ = .int .i64 k_1l0 ∧ Hid (cntK (l0 a) m_ k0 (k_1l0) (e0 ) = some r) ∧ Hid (Below w.heap.size w wr))
  case atStart => exact ⟨0, _, by omega, rfl, rfl, H, HB⟩
  case round =>
    obtain ⟨k0, k_1l0, hkm0, rfl, rfl, H, HBwr0⟩ := hrel
    rename World => wr0
    cases gk with
    | zero =>
      obtain rfl : k0 = a.length := by omega
      have hc0 : decide (((a.length : Nat) : Int) < ((a.length : Nat) : Int)) = false := by simp
      replace H := cnt_zero H
      unfold e0 at H
      replace H := let_hid H
      obtain ⟨_, rfl, H⟩ := H
      obtain rfl := ret_hid H
      go_wp2_with fail
      go_ret
      exact ⟨rfl, HBwr0.out⟩
    | succ m0 =>
      have hlt0 : k0 < a.length := by omega
      have hc0 : decide ((k0 : Int) < ((a.length : Nat) : Int)) = true := by simp; omega
      replace H := cnt_succ H
      unfold l0 at H
      replace H := let_hid H
      obtain ⟨_, rfl, H⟩ := H
      go_wp2_with fail
      replace H := idx_hid H
      obtain ⟨nt_8, yt_8, et_8, lt_8, gt_8, H⟩ := H
      obtain rfl : k0 = nt_8 := by omega
      clear et_8
      obtain ⟨ab_t_8, ao_t_8, zt_8, At_8, z_t_8, ct_8_0⟩ := strs_at M0.out lt_8
      obtain rfl := Option.some.inj (gt_8.out.symm.trans z_t_8)
      subst At_8
      have ltt_8 := cell_lt ct_8_0
      replace ct_8_0 := cell_below HBwr0.out ct_8_0
      clear z_t_8
      have b0t_8 : (0 : Int) ≤ (k0 : Int) := by omega
      have b1t_8 : (k0 : Int) < ((a.length : Nat) : Int) := by omega
      have b2t_8 : ((k0 : Int)).toNat = k0 := by omega
      have Hct_8_0 := Lib.hid ct_8_0
      replace ct_8_0 := cell_regrown ct_8_0
      replace H := bind_hid H
      obtain ⟨t_11, qt_11, H⟩ := H
      have nt_11 : ∀ d os, Calls Try.prog 73 #[.int .i64 k_1l0] (Go.Sort.grow (redrawn wr0 d) os) fun e w'' => e = .returned (.string t_11) ∧ ∃ p : Regrown, w'' = Go.Sort.grow (redrawn wr0 p.d) p.os := fun d os => Calls.regrown_of (Go.Proofs.Ytpbbechgpgnpbaa.GlMarkText.C (k_1l0)  _    qt_11)
      replace H := let_hid H
      obtain ⟨t_12, ht_12, H⟩ := H
      refine wp_region_quiet_below (by kernel_rfl) (by kernel_rfl) ?_
      repeat (go_big_quiet_step (first | (go_at_call 73; exact nt_11 _ _)))
      refine wpQuiet_nil ?_
      intro Y4 hY4
      replace hY4 := below_class hY4
      clear nt_11
      replace ct_8_0 := Hct_8_0.out
      clear Hct_8_0
      have HBY4 := Lib.hid (Below.step HBwr0.out hY4)
      replace ct_8_0 := cell_below hY4 ct_8_0
      clear hY4
      cases t_12 with
      | false =>
        replace H := ite_f H
        replace H := let_hid H
        obtain ⟨t_15, ht_15, H⟩ := H
        replace H := app_hid H
        go_wp2_with fail
        go_roundg m0
        case measure => omega
        case rel => exact ⟨k0 + 1, _, by omega, by go_num, rfl, H, HBY4⟩
      | true =>
        replace H := ite_t H
        obtain rfl := ret_hid H
        go_wp2_with fail
        go_ret
        exact ⟨rfl, HBY4.out⟩
end Go.Proofs.Ytpbbechgpgnpbaa.GlHeldStringS

/- loop.example/g01062/laws.heldStringSS as a plain function, and the contract of the program's: where the plain one has an answer, the program has it. Conditions: slices read as lists. -/
namespace Go.Proofs.Ytpbbechgpgnpbaa.GlHeldStringSS
set_option linter.unusedVariables false
set_option linter.unusedSimpArgs false
open Go.RowKit
open Go.Proofs.Ytpbbechgpgnpbaa.Rowed Go.Proofs.Ytpbbechgpgnpbaa.Turn Go.Proofs.Ytpbbechgpgnpbaa.Aid Go.Proofs.Ytpbbechgpgnpbaa.GoP Go.Proofs.Ytpbbechgpgnpbaa.GoM

def l0 (a : (List (List ByteArray))) (k0 : Nat) (s : Int) (nx0 bk0 : Int → Option (Int)) : Option (Int) :=
  letK s fun k_1l0 =>
  Option.bind (idx a (k0 : Int)) fun (yt_8 : (List ByteArray)) =>
  Option.bind (Go.Proofs.Ytpbbechgpgnpbaa.GlHeldStringS.P yt_8 k_1l0) fun (t_11 : Int) =>
  letK (decide (t_11 < 0)) fun (t_14 : Bool) =>
  iteK t_14
  (some (-1))
  (appK nx0 (t_11))

def e0  (s : Int) : Option (Int) :=
  letK s fun k_1l0 =>
  some k_1l0

def P (a : (List (List ByteArray))) (k_1 : Int) : Option (Int) :=
  cntK (l0 a) (a.length) 0 (k_1) (e0 )

set_option maxRecDepth 100000 in
set_option maxHeartbeats 2000000 in
theorem C (a : (List (List ByteArray))) (k_1 : Int) (A0 : Option Addr) (c0 : Nat)  (w : World) (M0 : Hid (Go.Proofs.Ytpbbechgpgnpbaa.GoN.ReadNest w 1 (fun z_ => z_.map Value.string) A0 a)) (N0 : Hid (a.length ≤ 9223372036854775807))  {r : Int} (H : Hid (P a k_1 = some r)) :
    Calls Try.prog 40 #[.slice A0 a.length c0, .int .i64 k_1] w (Gives (.int .i64 r) w) := by
  have HB := Lib.hid (Below.refl w.heap.size w)
  unfold P at H
  have N0o := N0.out
  go_enter Try.func40, Try.ntmps40
  go_wp2_with fail
  go_loopg [5, 1] (a.length) (fun m_ v5_ v1_ wr => ∃ (k0 : Nat) (k_1l0 : Int), k0 + m_ = a.length ∧ v5_ = .int .i64 (k0 : Int) ∧ v1_ = .int .i64 k_1l0 ∧ Hid (cntK (l0 a) m_ k0 (k_1l0) (e0 ) = some r) ∧ Hid (Below w.heap.size w wr))
  case atStart => exact ⟨0, _, by omega, rfl, rfl, H, HB⟩
  case round =>
    obtain ⟨k0, k_1l0, hkm0, rfl, rfl, H, HBwr0⟩ := hrel
    rename World => wr0
    cases gk with
    | zero =>
      obtain rfl : k0 = a.length := by omega
      have hc0 : decide (((a.length : Nat) : Int) < ((a.length : Nat) : Int)) = false := by simp
      replace H := cnt_zero H
      unfold e0 at H
      replace H := let_hid H
      obtain ⟨_, rfl, H⟩ := H
      obtain rfl := ret_hid H
      go_wp2_with fail
      go_ret
      exact ⟨rfl, HBwr0.out⟩
    | succ m0 =>
      have hlt0 : k0 < a.length := by omega
      have hc0 : decide ((k0 : Int) < ((a.length : Nat) : Int)) = true := by simp; omega
      replace H := cnt_succ H
      unfold l0 at H
      replace H := let_hid H
      obtain ⟨_, rfl, H⟩ := H
      replace H := idx_hid H
      obtain ⟨nt_8, yt_8, et_8, lt_8, gt_8, H⟩ := H
      obtain rfl : k0 = nt_8 := by omega
      clear et_8
      obtain ⟨bbt_8, oot_8, zt_8, Art_8, crt_8, eAt_8, zzt_8, hct_8, hrt_8, hqt_8, hnt_8⟩ := Go.Proofs.Ytpbbechgpgnpbaa.GoN.nest_at M0.out (k := k0) lt_8
      obtain rfl := Option.some.inj (gt_8.out.symm.trans zzt_8)
      clear zzt_8
      subst eAt_8
      have ltt_8 := cell_lt hct_8
      replace hct_8 := cell_below HBwr0.out hct_8
      have Mrt_8 := Lib.hid hrt_8
      have Qrt_8 := Lib.hid hqt_8
      have Nrt_8 := Lib.hid hnt_8
      clear hrt_8 hqt_8 hnt_8
      have b0t_8 : (0 : Int) ≤ (k0 : Int) := by omega
      have b1t_8 : (k0 : Int) < ((a.length : Nat) : Int) := by omega
      have b2t_8 : ((k0 : Int)).toNat = k0 := by omega
      replace H := bind_hid H
      obtain ⟨t_11, qt_11, H⟩ := H
      go_wp2_with fail
      go_at_call 31
      refine (Go.Proofs.Ytpbbechgpgnpbaa.GlHeldStringS.C (yt_8) (k_1l0) Art_8 crt_8 _   (Lib.hid (Cells.below Mrt_8.out HBwr0.out)) Nrt_8 qt_11).mono ?_
      rintro e_t_11 wt_11 ⟨rfl, bt_11⟩
      have HBwt_11 := Lib.hid (Below.step HBwr0.out bt_11)
      replace hct_8 := cell_below bt_11 hct_8
      clear bt_11
      replace H := let_hid H
      obtain ⟨t_14, ht_14, H⟩ := H
      cases t_14 with
      | false =>
        replace H := ite_f H
        replace H := app_hid H
        go_wp2_with fail
        go_roundg m0
        case measure => omega
        case rel => exact ⟨k0 + 1, _, by omega, by go_num, rfl, H, HBwt_11⟩
      | true =>
        replace H := ite_t H
        obtain rfl := ret_hid H
        go_wp2_with fail
        go_ret
        exact ⟨rfl, HBwt_11.out⟩
end Go.Proofs.Ytpbbechgpgnpbaa.GlHeldStringSS

/- loop.example/g01062/laws.FnExactOverlapPairs as a plain function, and the contract of the program's: where the plain one has an answer, the program has it. Conditions: slices read as lists. -/
namespace Go.Proofs.Ytpbbechgpgnpbaa.GlFnExactOverlapPairs
set_option linter.unusedVariables false
set_option linter.unusedSimpArgs false
open Go.RowKit
open Go.Proofs.Ytpbbechgpgnpbaa.Rowed Go.Proofs.Ytpbbechgpgnpbaa.Turn Go.Proofs.Ytpbbechgpgnpbaa.Aid Go.Proofs.Ytpbbechgpgnpbaa.GoP Go.Proofs.Ytpbbechgpgnpbaa.GoM

def P (fuel : Nat) (aList : (List Go.Proofs.Ytpbbechgpgnpbaa.PShade.Shade)) : Option (Bool) :=
  Option.bind (Go.Proofs.Ytpbbechgpgnpbaa.GlSzShadeS.P aList 1048576) fun (t_4 : Int) =>
  letK (decide (t_4 < 0)) fun (t_7 : Bool) =>
  iteK t_7
  (some true)
  (Option.bind (Go.Proofs.Ytpbbechgpgnpbaa.GlToShadeS.P aList) fun (t_10 : (List Go.Proofs.Ytpbbechgpgnpbaa.PShade.Shade)) =>
  bind2 (Go.Proofs.Ytpbbechgpgnpbaa.GsOverlapPairs.P fuel t_10) fun (t_11a : (List (List ByteArray))) (t_11b : Bool) =>
  Option.bind (Go.Proofs.Ytpbbechgpgnpbaa.GlToShadeS.P aList) fun (t_18 : (List Go.Proofs.Ytpbbechgpgnpbaa.PShade.Shade)) =>
  bind2 (Go.Proofs.Ytpbbechgpgnpbaa.GiOverlapPairs.P t_18) fun (t_21a : (List (List ByteArray))) (t_21b : Bool) =>
  Option.bind (Go.Proofs.Ytpbbechgpgnpbaa.GlEqStringSS.P t_21a t_11a) fun (t_29 : Bool) =>
  letK (!t_29) fun (t_30 : Bool) =>
  joinK (fun (t_35 : Bool) =>
  iteK t_35
  (some false)
  (Option.bind (Go.Proofs.Ytpbbechgpgnpbaa.GlToShadeS.P aList) fun (t_39 : (List Go.Proofs.Ytpbbechgpgnpbaa.PShade.Shade)) =>
  Option.bind (Go.Proofs.Ytpbbechgpgnpbaa.GlEqShadeS.P t_18 t_39) fun (t_40 : Bool) =>
  letK (!t_40) fun (t_41 : Bool) =>
  iteK t_41
  (some false)
  (bind2 (Go.Proofs.Ytpbbechgpgnpbaa.GlMarkShadeS.P t_18 1) fun (t_46 : Int) (lt_46 : (List Go.Proofs.Ytpbbechgpgnpbaa.PShade.Shade)) =>
  letK (decide (t_46 < 0)) fun (t_49 : Bool) =>
  joinK (fun (t_55 : Bool) =>
  joinK (fun (t_60 : Bool) =>
  iteK t_60
  (some false)
  (bind2 (Go.Proofs.Ytpbbechgpgnpbaa.GlMarkStringSS.P t_21a 1) fun (t_65 : Int) (lt_65 : (List (List ByteArray))) =>
  Option.bind (Go.Proofs.Ytpbbechgpgnpbaa.GlHeldStringSS.P lt_65 1) fun (t_70 : Int) =>
  letK (decide (t_70 < 0)) fun (t_73 : Bool) =>
  iteK t_73
  (some false)
  (letK (t_70 != t_65) fun (t_77 : Bool) =>
  iteK t_77
  (some false)
  (Option.bind (Go.Proofs.Ytpbbechgpgnpbaa.GlToShadeS.P aList) fun (t_80 : (List Go.Proofs.Ytpbbechgpgnpbaa.PShade.Shade)) =>
  bind2 (Go.Proofs.Ytpbbechgpgnpbaa.GiOverlapPairs.P t_80) fun (t_81a : (List (List ByteArray))) (t_81b : Bool) =>
  Option.bind (Go.Proofs.Ytpbbechgpgnpbaa.GlEqStringSS.P t_81a t_11a) fun (t_89 : Bool) =>
  letK (!t_89) fun (t_90 : Bool) =>
  joinK (fun (t_95 : Bool) =>
  iteK t_95
  (some false)
  (Option.bind (Go.Proofs.Ytpbbechgpgnpbaa.GlHeldStringSS.P lt_65 1) fun (t_100 : Int) =>
  letK (decide (t_100 < 0)) fun (t_103 : Bool) =>
  iteK t_103
  (some false)
  (letK (t_100 != t_65) fun (t_107 : Bool) =>
  iteK t_107
  (some false)
  (some true)))) fun jt_95 => iteK t_90 (appK jt_95 true) (letK (!(t_81b == t_11b)) fun (t_94 : Bool) =>
  appK jt_95 t_94))))) fun jt_60 => iteK t_55 (appK jt_60 true) (letK (!(t_21b == t_11b)) fun (t_59 : Bool) =>
  appK jt_60 t_59)) fun jt_55 => iteK t_49 (appK jt_55 true) (Option.bind (Go.Proofs.Ytpbbechgpgnpbaa.GlEqStringSS.P t_21a t_11a) fun (t_53 : Bool) =>
  letK (!t_53) fun (t_54 : Bool) =>
  appK jt_55 t_54)))) fun jt_35 => iteK t_30 (appK jt_35 true) (letK (!(t_21b == t_11b)) fun (t_34 : Bool) =>
  appK jt_35 t_34))

set_option maxRecDepth 100000 in
set_option maxHeartbeats 2000000 in
theorem C (fuel : Nat) (aList : (List Go.Proofs.Ytpbbechgpgnpbaa.PShade.Shade)) (A0 : Option Addr) (c0 : Nat)  (w : World) (M0 : Hid (Cells w 5 A0 aList.length (Go.Proofs.Ytpbbechgpgnpbaa.PShade.flat aList))) (N0 : Hid (aList.length ≤ 9223372036854775807))  {r : Bool} (H : Hid (P fuel aList = some r)) :
    Calls Try.prog 9 #[.slice A0 aList.length c0] w (Gives (.bool r) w) := by
  have HB := Lib.hid (Below.refl w.heap.size w)
  unfold P at H
  have N0o := N0.out
  go_enter Try.func9, Try.ntmps9
  replace H := bind_hid H
  obtain ⟨t_4, qt_4, H⟩ := H
  go_wp2_with fail
  go_at_call 19
  refine (Go.Proofs.Ytpbbechgpgnpbaa.GlSzShadeS.C (aList) (1048576) A0 c0 _   (Lib.hid (Cells.below M0.out HB.out)) N0 qt_4).mono ?_
  rintro e_t_4 wt_4 ⟨rfl, bt_4⟩
  have HBwt_4 := Lib.hid (Below.step HB.out bt_4)
  clear bt_4
  replace H := let_hid H
  obtain ⟨t_7, ht_7, H⟩ := H
  cases t_7 with
  | false =>
    replace H := ite_f H
    replace H := bind_hid H
    obtain ⟨t_10, qt_10, H⟩ := H
    go_wp2_with fail
    go_at_call 21
    refine (Go.Proofs.Ytpbbechgpgnpbaa.GlToShadeS.C (aList) A0 c0 _   (Lib.hid (Cells.below M0.out HBwt_4.out)) N0 qt_10).mono ?_
    rintro e_t_10 wt_10 ⟨At_10, ct_10, rfl, ot_10, bt_10⟩
    have Ot_10 := Lib.hid (own_lower ot_10 HBwt_4.out.size)
    clear ot_10
    have HBwt_10 := Lib.hid (Below.step HBwt_4.out bt_10)
    clear bt_10
    replace H := bind2_hid H
    obtain ⟨t_11a, t_11b, qt_11, H⟩ := H
    go_wp2_with fail
    go_at_call 36
    refine (Go.Proofs.Ytpbbechgpgnpbaa.GsOverlapPairs.C fuel (t_10) At_10 ct_10 _   (Lib.hid (own_cells Ot_10.out)) (Lib.hid (own_max Ot_10.out)) qt_11).mono ?_
    rintro e_t_11 wt_11 ⟨At_11a, ct_11a, rfl, ⟨Bt_11a, ot_11a⟩, bt_11⟩
    have Dt_11a_t_10 := Lib.hid (Go.Proofs.Ytpbbechgpgnpbaa.GoN.nest_callrow ot_11a Ot_10.out)
    have Ot_11a := Lib.hid (Go.Proofs.Ytpbbechgpgnpbaa.GoN.nest_lower ot_11a HBwt_10.out.size)
    clear ot_11a
    have HBwt_11 := Lib.hid (Below.step HBwt_10.out bt_11)
    replace Ot_10 := Lib.hid (own_below Ot_10.out bt_11)
    clear bt_11
    replace H := bind_hid H
    obtain ⟨t_18, qt_18, H⟩ := H
    go_wp2_with fail
    go_at_call 21
    refine (Go.Proofs.Ytpbbechgpgnpbaa.GlToShadeS.C (aList) A0 c0 _   (Lib.hid (Cells.below M0.out HBwt_11.out)) N0 qt_18).mono ?_
    rintro e_t_18 wt_18 ⟨At_18, ct_18, rfl, ot_18, bt_18⟩
    have Dt_18_t_10 := Lib.hid (apart_call ot_18 Ot_10.out)
    have Dt_18_t_11a := Lib.hid (Go.Proofs.Ytpbbechgpgnpbaa.GoN.nest_call ot_18 Ot_11a.out)
    have Ot_18 := Lib.hid (own_lower ot_18 HBwt_11.out.size)
    clear ot_18
    have HBwt_18 := Lib.hid (Below.step HBwt_11.out bt_18)
    replace Ot_10 := Lib.hid (own_below Ot_10.out bt_18)
    replace Ot_11a := Lib.hid (Go.Proofs.Ytpbbechgpgnpbaa.GoN.nest_below Ot_11a.out bt_18)
    clear bt_18
    replace H := bind2_hid H
    obtain ⟨t_21a, t_21b, qt_21, H⟩ := H
    go_wp2_with fail
    go_at_call 37
    refine (Go.Proofs.Ytpbbechgpgnpbaa.GiOverlapPairs.C (t_18) At_18 ct_18 _   (Lib.hid (own_cells Ot_18.out)) (Lib.hid (own_max Ot_18.out)) (Lib.hid (own_room Ot_18.out)) qt_21).mono ?_
    rintro e_t_21 wt_21 ⟨At_21a, ct_21a, rfl, ⟨Bt_21a, ot_21a⟩, bt_21⟩
    have Dt_21a_t_10 := Lib.hid (Go.Proofs.Ytpbbechgpgnpbaa.GoN.nest_callrow ot_21a Ot_10.out)
    have Dt_21a_t_11a := Lib.hid (Go.Proofs.Ytpbbechgpgnpbaa.GoN.nest_callnest ot_21a Ot_11a.out)
    have Dt_21a_t_18 := Lib.hid (Go.Proofs.Ytpbbechgpgnpbaa.GoN.nest_callrow ot_21a Ot_18.out)
    have Ot_21a := Lib.hid (Go.Proofs.Ytpbbechgpgnpbaa.GoN.nest_lower ot_21a HBwt_18.out.size)
    clear ot_21a
    have HBwt_21 := Lib.hid (Below.step HBwt_18.out bt_21)
    replace Ot_10 := Lib.hid (own_below Ot_10.out bt_21)
    replace Ot_11a := Lib.hid (Go.Proofs.Ytpbbechgpgnpbaa.GoN.nest_below Ot_11a.out bt_21)
    replace Ot_18 := Lib.hid (own_below Ot_18.out bt_21)
    clear bt_21
    replace H := bind_hid H
    obtain ⟨t_29, qt_29, H⟩ := H
    go_wp2_with fail
    go_at_call 38
    refine (Go.Proofs.Ytpbbechgpgnpbaa.GlEqStringSS.C (t_21a) (t_11a) At_21a ct_21a At_11a ct_11a _   (Lib.hid (Go.Proofs.Ytpbbechgpgnpbaa.GoN.nest_read Ot_21a.out)) (Lib.hid (Go.Proofs.Ytpbbechgpgnpbaa.GoN.nest_max Ot_21a.out)) (Lib.hid (Go.Proofs.Ytpbbechgpgnpbaa.GoN.nest_read Ot_11a.out)) (Lib.hid (Go.Proofs.Ytpbbechgpgnpbaa.GoN.nest_max Ot_11a.out)) qt_29).mono ?_
    rintro e_t_29 wt_29 ⟨rfl, bt_29⟩
    have HBwt_29 := Lib.hid (Below.step HBwt_21.out bt_29)
    replace Ot_10 := Lib.hid (own_below Ot_10.out bt_29)
    replace Ot_11a := Lib.hid (Go.Proofs.Ytpbbechgpgnpbaa.GoN.nest_below Ot_11a.out bt_29)
    replace Ot_18 := Lib.hid (own_below Ot_18.out bt_29)
    replace Ot_21a := Lib.hid (Go.Proofs.Ytpbbechgpgnpbaa.GoN.nest_below Ot_21a.out bt_29)
    clear bt_29
    cases t_29 with
    | false =>
      replace H := let_hid H
      obtain ⟨t_30, ht_30, H⟩ := H
      obtain rfl : t_30 = true := ht_30.symm
      replace H := join_hid H
      replace H := ite_t H
      replace H := app_hid H
      replace H := ite_t H
      obtain rfl := ret_hid H
      go_wp2_with fail
      go_ret
      exact ⟨rfl, HBwt_29.out⟩
    | true =>
      replace H := let_hid H
      obtain ⟨t_30, ht_30, H⟩ := H
      obtain rfl : t_30 = false := ht_30.symm
      replace H := join_hid H
      replace H := ite_f H
      replace H := let_hid H
      obtain ⟨t_34, ht_34, H⟩ := H
      replace H := app_hid H
      cases t_34 with
      | false =>
        replace H := ite_f H
        replace H := bind_hid H
        obtain ⟨t_39, qt_39, H⟩ := H
        go_wp2_with fail
        go_at_call 21
        refine (Go.Proofs.Ytpbbechgpgnpbaa.GlToShadeS.C (aList) A0 c0 _   (Lib.hid (Cells.below M0.out HBwt_29.out)) N0 qt_39).mono ?_
        rintro e_t_39 wt_39 ⟨At_39, ct_39, rfl, ot_39, bt_39⟩
        have Dt_39_t_10 := Lib.hid (apart_call ot_39 Ot_10.out)
        have Dt_39_t_11a := Lib.hid (Go.Proofs.Ytpbbechgpgnpbaa.GoN.nest_call ot_39 Ot_11a.out)
        have Dt_39_t_18 := Lib.hid (apart_call ot_39 Ot_18.out)
        have Dt_39_t_21a := Lib.hid (Go.Proofs.Ytpbbechgpgnpbaa.GoN.nest_call ot_39 Ot_21a.out)
        have Ot_39 := Lib.hid (own_lower ot_39 HBwt_29.out.size)
        clear ot_39
        have HBwt_39 := Lib.hid (Below.step HBwt_29.out bt_39)
        replace Ot_10 := Lib.hid (own_below Ot_10.out bt_39)
        replace Ot_11a := Lib.hid (Go.Proofs.Ytpbbechgpgnpbaa.GoN.nest_below Ot_11a.out bt_39)
        replace Ot_18 := Lib.hid (own_below Ot_18.out bt_39)
        replace Ot_21a := Lib.hid (Go.Proofs.Ytpbbechgpgnpbaa.GoN.nest_below Ot_21a.out bt_39)
        clear bt_39
        replace H := bind_hid H
        obtain ⟨t_40, qt_40, H⟩ := H
        go_wp2_with fail
        go_at_call 23
        refine (Go.Proofs.Ytpbbechgpgnpbaa.GlEqShadeS.C (t_18) (t_39) At_18 ct_18 At_39 ct_39 _   (Lib.hid (own_cells Ot_18.out)) (Lib.hid (own_max Ot_18.out)) (Lib.hid (own_cells Ot_39.out)) (Lib.hid (own_max Ot_39.out)) qt_40).mono ?_
        rintro e_t_40 wt_40 ⟨rfl, bt_40⟩
        have HBwt_40 := Lib.hid (Below.step HBwt_39.out bt_40)
        replace Ot_10 := Lib.hid (own_below Ot_10.out bt_40)
        replace Ot_11a := Lib.hid (Go.Proofs.Ytpbbechgpgnpbaa.GoN.nest_below Ot_11a.out bt_40)
        replace Ot_18 := Lib.hid (own_below Ot_18.out bt_40)
        replace Ot_21a := Lib.hid (Go.Proofs.Ytpbbechgpgnpbaa.GoN.nest_below Ot_21a.out bt_40)
        replace Ot_39 := Lib.hid (own_below Ot_39.out bt_40)
        clear bt_40
        cases t_40 with
        | false =>
          replace H := let_hid H
          obtain ⟨t_41, ht_41, H⟩ := H
          obtain rfl : t_41 = true := ht_41.symm
          replace H := ite_t H
          obtain rfl := ret_hid H
          go_wp2_with fail
          go_ret
          exact ⟨rfl, HBwt_40.out⟩
        | true =>
          replace H := let_hid H
          obtain ⟨t_41, ht_41, H⟩ := H
          obtain rfl : t_41 = false := ht_41.symm
          replace H := ite_f H
          replace H := bind2_hid H
          obtain ⟨t_46, lt_46, qt_46, H⟩ := H
          go_wp2_with fail
          go_at_call 29
          refine (Go.Proofs.Ytpbbechgpgnpbaa.GlMarkShadeS.C (t_18) (1) At_18 ct_18 w.heap.size _   Ot_18 (Lib.hid (own_max Ot_18.out))   qt_46).mono ?_
          rintro e_t_46 wt_46 ⟨rfl, ot_46, nt_46, gt_46⟩
          have Pt_46 := Lib.hid ot_46
          have Gt_46 := Lib.hid gt_46
          replace nt_46 := Lib.hid nt_46
          clear ot_46 gt_46
          have HBwt_46 := Lib.hid (HBwt_40.out.grown Gt_46.out HBwt_40.out.size (fun q hq => (Ot_18.out.lt q hq).1))
          replace Ot_10 := Lib.hid (own_other Ot_10.out Gt_46.out Dt_18_t_10.out)
          replace Ot_11a := Lib.hid (Go.Proofs.Ytpbbechgpgnpbaa.GoN.nest_other Ot_11a.out Gt_46.out Dt_18_t_11a.out)
          replace Ot_21a := Lib.hid (Go.Proofs.Ytpbbechgpgnpbaa.GoN.nest_other Ot_21a.out Gt_46.out Dt_21a_t_18.out)
          replace Ot_39 := Lib.hid (own_other Ot_39.out Gt_46.out (Apart.symm Dt_39_t_18.out))
          clear Ot_18 Gt_46
          replace H := let_hid H
          obtain ⟨t_49, ht_49, H⟩ := H
          replace H := join_hid H
          cases t_49 with
          | false =>
            replace H := ite_f H
            replace H := bind_hid H
            obtain ⟨t_53, qt_53, H⟩ := H
            go_wp2_with fail
            go_at_call 38
            refine (Go.Proofs.Ytpbbechgpgnpbaa.GlEqStringSS.C (t_21a) (t_11a) At_21a ct_21a At_11a ct_11a _   (Lib.hid (Go.Proofs.Ytpbbechgpgnpbaa.GoN.nest_read Ot_21a.out)) (Lib.hid (Go.Proofs.Ytpbbechgpgnpbaa.GoN.nest_max Ot_21a.out)) (Lib.hid (Go.Proofs.Ytpbbechgpgnpbaa.GoN.nest_read Ot_11a.out)) (Lib.hid (Go.Proofs.Ytpbbechgpgnpbaa.GoN.nest_max Ot_11a.out)) qt_53).mono ?_
            rintro e_t_53 wt_53 ⟨rfl, bt_53⟩
            have HBwt_53 := Lib.hid (Below.step HBwt_46.out bt_53)
            replace Ot_10 := Lib.hid (own_below Ot_10.out bt_53)
            replace Ot_11a := Lib.hid (Go.Proofs.Ytpbbechgpgnpbaa.GoN.nest_below Ot_11a.out bt_53)
            replace Pt_46 := Lib.hid (own_below Pt_46.out bt_53)
            replace Ot_21a := Lib.hid (Go.Proofs.Ytpbbechgpgnpbaa.GoN.nest_below Ot_21a.out bt_53)
            replace Ot_39 := Lib.hid (own_below Ot_39.out bt_53)
            clear bt_53
            cases t_53 with
            | false =>
              replace H := let_hid H
              obtain ⟨t_54, ht_54, H⟩ := H
              obtain rfl : t_54 = true := ht_54.symm
              replace H := app_hid H
              replace H := join_hid H
              replace H := ite_t H
              replace H := app_hid H
              replace H := ite_t H
              obtain rfl := ret_hid H
              go_wp2_with fail
              go_ret
              exact ⟨rfl, HBwt_53.out⟩
            | true =>
              replace H := let_hid H
              obtain ⟨t_54, ht_54, H⟩ := H
              obtain rfl : t_54 = false := ht_54.symm
              replace H := app_hid H
              replace H := join_hid H
              replace H := ite_f H
              replace H := let_hid H
              obtain ⟨t_59, ht_59, H⟩ := H
              obtain rfl := ht_34.symm.trans ht_59
              replace H := app_hid H
              replace H := ite_f H
              replace H := bind2_hid H
              obtain ⟨t_65, lt_65, qt_65, H⟩ := H
              go_wp2_with fail
              go_at_call 39
              refine (Go.Proofs.Ytpbbechgpgnpbaa.GlMarkStringSS.C (t_21a) (1) At_21a ct_21a w.heap.size Bt_21a _   Ot_21a (Lib.hid (Go.Proofs.Ytpbbechgpgnpbaa.GoN.nest_max Ot_21a.out))   qt_65).mono ?_
              rintro e_t_65 wt_65 ⟨rfl, ot_65, nt_65, gt_65⟩
              have Pt_65 := Lib.hid ot_65
              have Gt_65 := Lib.hid gt_65
              replace nt_65 := Lib.hid nt_65
              clear ot_65 gt_65
              have HBwt_65 := Lib.hid (Go.Proofs.Ytpbbechgpgnpbaa.GoN.below_nest HBwt_53.out Gt_65.out HBwt_53.out.size (Go.Proofs.Ytpbbechgpgnpbaa.GoN.nest_lt Ot_21a.out))
              replace Ot_10 := Lib.hid (Go.Proofs.Ytpbbechgpgnpbaa.GoN.own_otherN Ot_10.out Gt_65.out Dt_21a_t_10.out)
              replace Ot_11a := Lib.hid (Go.Proofs.Ytpbbechgpgnpbaa.GoN.nest_otherN Ot_11a.out Gt_65.out (Go.Proofs.Ytpbbechgpgnpbaa.GoN.nest_flip Dt_21a_t_11a.out))
              replace Pt_46 := Lib.hid (Go.Proofs.Ytpbbechgpgnpbaa.GoN.own_otherN Pt_46.out Gt_65.out Dt_21a_t_18.out)
              replace Ot_39 := Lib.hid (Go.Proofs.Ytpbbechgpgnpbaa.GoN.own_otherN Ot_39.out Gt_65.out Dt_39_t_21a.out)
              clear Ot_21a Gt_65
              replace H := bind_hid H
              obtain ⟨t_70, qt_70, H⟩ := H
              go_wp2_with fail
              have hc_ := nt_65.out
              have hv_ : (Value.slice At_21a t_21a.length ct_21a : Value) = Value.slice At_21a lt_65.length ct_21a := by rw [hc_]
              try rw [hv_]
              clear hc_ hv_
              go_wp2_with fail
              go_at_call 40
              refine (Go.Proofs.Ytpbbechgpgnpbaa.GlHeldStringSS.C (lt_65) (1) At_21a ct_21a _   (Lib.hid (Go.Proofs.Ytpbbechgpgnpbaa.GoN.nest_read Pt_65.out)) (Lib.hid (Go.Proofs.Ytpbbechgpgnpbaa.GoN.nest_max Pt_65.out)) qt_70).mono ?_
              rintro e_t_70 wt_70 ⟨rfl, bt_70⟩
              have HBwt_70 := Lib.hid (Below.step HBwt_65.out bt_70)
              replace Ot_10 := Lib.hid (own_below Ot_10.out bt_70)
              replace Ot_11a := Lib.hid (Go.Proofs.Ytpbbechgpgnpbaa.GoN.nest_below Ot_11a.out bt_70)
              replace Pt_46 := Lib.hid (own_below Pt_46.out bt_70)
              replace Pt_65 := Lib.hid (Go.Proofs.Ytpbbechgpgnpbaa.GoN.nest_below Pt_65.out bt_70)
              replace Ot_39 := Lib.hid (own_below Ot_39.out bt_70)
              clear bt_70
              replace H := let_hid H
              obtain ⟨t_73, ht_73, H⟩ := H
              cases t_73 with
              | false =>
                replace H := ite_f H
                replace H := let_hid H
                obtain ⟨t_77, ht_77, H⟩ := H
                cases t_77 with
                | false =>
                  replace H := ite_f H
                  replace H := bind_hid H
                  obtain ⟨t_80, qt_80, H⟩ := H
                  go_wp2_with fail
                  go_at_call 21
                  refine (Go.Proofs.Ytpbbechgpgnpbaa.GlToShadeS.C (aList) A0 c0 _   (Lib.hid (Cells.below M0.out HBwt_70.out)) N0 qt_80).mono ?_
                  rintro e_t_80 wt_80 ⟨At_80, ct_80, rfl, ot_80, bt_80⟩
                  have Dt_80_t_10 := Lib.hid (apart_call ot_80 Ot_10.out)
                  have Dt_80_t_11a := Lib.hid (Go.Proofs.Ytpbbechgpgnpbaa.GoN.nest_call ot_80 Ot_11a.out)
                  have Dt_80_t_18 := Lib.hid (apart_call ot_80 Pt_46.out)
                  have Dt_80_t_21a := Lib.hid (Go.Proofs.Ytpbbechgpgnpbaa.GoN.nest_call ot_80 Pt_65.out)
                  have Dt_80_t_39 := Lib.hid (apart_call ot_80 Ot_39.out)
                  have Ot_80 := Lib.hid (own_lower ot_80 HBwt_70.out.size)
                  clear ot_80
                  have HBwt_80 := Lib.hid (Below.step HBwt_70.out bt_80)
                  replace Ot_10 := Lib.hid (own_below Ot_10.out bt_80)
                  replace Ot_11a := Lib.hid (Go.Proofs.Ytpbbechgpgnpbaa.GoN.nest_below Ot_11a.out bt_80)
                  replace Pt_46 := Lib.hid (own_below Pt_46.out bt_80)
                  replace Pt_65 := Lib.hid (Go.Proofs.Ytpbbechgpgnpbaa.GoN.nest_below Pt_65.out bt_80)
                  replace Ot_39 := Lib.hid (own_below Ot_39.out bt_80)
                  clear bt_80
                  replace H := bind2_hid H
                  obtain ⟨t_81a, t_81b, qt_81, H⟩ := H
                  go_wp2_with fail
                  go_at_call 37
                  refine (Go.Proofs.Ytpbbechgpgnpbaa.GiOverlapPairs.C (t_80) At_80 ct_80 _   (Lib.hid (own_cells Ot_80.out)) (Lib.hid (own_max Ot_80.out)) (Lib.hid (own_room Ot_80.out)) qt_81).mono ?_
                  rintro e_t_81 wt_81 ⟨At_81a, ct_81a, rfl, ⟨Bt_81a, ot_81a⟩, bt_81⟩
                  have Dt_81a_t_10 := Lib.hid (Go.Proofs.Ytpbbechgpgnpbaa.GoN.nest_callrow ot_81a Ot_10.out)
                  have Dt_81a_t_11a := Lib.hid (Go.Proofs.Ytpbbechgpgnpbaa.GoN.nest_callnest ot_81a Ot_11a.out)
                  have Dt_81a_t_18 := Lib.hid (Go.Proofs.Ytpbbechgpgnpbaa.GoN.nest_callrow ot_81a Pt_46.out)
                  have Dt_81a_t_21a := Lib.hid (Go.Proofs.Ytpbbechgpgnpbaa.GoN.nest_callnest ot_81a Pt_65.out)
                  have Dt_81a_t_39 := Lib.hid (Go.Proofs.Ytpbbechgpgnpbaa.GoN.nest_callrow ot_81a Ot_39.out)
                  have Dt_81a_t_80 := Lib.hid (Go.Proofs.Ytpbbechgpgnpbaa.GoN.nest_callrow ot_81a Ot_80.out)
                  have Ot_81a := Lib.hid (Go.Proofs.Ytpbbechgpgnpbaa.GoN.nest_lower ot_81a HBwt_80.out.size)
                  clear ot_81a
                  have HBwt_81 := Lib.hid (Below.step HBwt_80.out bt_81)
                  replace Ot_10 := Lib.hid (own_below Ot_10.out bt_81)
                  replace Ot_11a := Lib.hid (Go.Proofs.Ytpbbechgpgnpbaa.GoN.nest_below Ot_11a.out bt_81)
                  replace Pt_46 := Lib.hid (own_below Pt_46.out bt_81)
                  replace Pt_65 := Lib.hid (Go.Proofs.Ytpbbechgpgnpbaa.GoN.nest_below Pt_65.out bt_81)
                  replace Ot_39 := Lib.hid (own_below Ot_39.out bt_81)
                  replace Ot_80 := Lib.hid (own_below Ot_80.out bt_81)
                  clear bt_81
                  replace H := bind_hid H
                  obtain ⟨t_89, qt_89, H⟩ := H
                  go_wp2_with fail
                  go_at_call 38
                  refine (Go.Proofs.Ytpbbechgpgnpbaa.GlEqStringSS.C (t_81a) (t_11a) At_81a ct_81a At_11a ct_11a _   (Lib.hid (Go.Proofs.Ytpbbechgpgnpbaa.GoN.nest_read Ot_81a.out)) (Lib.hid (Go.Proofs.Ytpbbechgpgnpbaa.GoN.nest_max Ot_81a.out)) (Lib.hid (Go.Proofs.Ytpbbechgpgnpbaa.GoN.nest_read Ot_11a.out)) (Lib.hid (Go.Proofs.Ytpbbechgpgnpbaa.GoN.nest_max Ot_11a.out)) qt_89).mono ?_
                  rintro e_t_89 wt_89 ⟨rfl, bt_89⟩
                  have HBwt_89 := Lib.hid (Below.step HBwt_81.out bt_89)
                  replace Ot_10 := Lib.hid (own_below Ot_10.out bt_89)
                  replace Ot_11a := Lib.hid (Go.Proofs.Ytpbbechgpgnpbaa.GoN.nest_below Ot_11a.out bt_89)
                  replace Pt_46 := Lib.hid (own_below Pt_46.out bt_89)
                  replace Pt_65 := Lib.hid (Go.Proofs.Ytpbbechgpgnpbaa.GoN.nest_below Pt_65.out bt_89)
                  replace Ot_39 := Lib.hid (own_below Ot_39.out bt_89)
                  replace Ot_80 := Lib.hid (own_below Ot_80.out bt_89)
                  replace Ot_81a := Lib.hid (Go.Proofs.Ytpbbechgpgnpbaa.GoN.nest_below Ot_81a.out bt_89)
                  clear bt_89
                  cases t_89 with
                  | false =>
                    replace H := let_hid H
                    obtain ⟨t_90, ht_90, H⟩ := H
                    obtain rfl : t_90 = true := ht_90.symm
                    replace H := join_hid H
                    replace H := ite_t H
                    replace H := app_hid H
                    replace H := ite_t H
                    obtain rfl := ret_hid H
                    go_wp2_with fail
                    go_ret
                    exact ⟨rfl, HBwt_89.out⟩
                  | true =>
                    replace H := let_hid H
                    obtain ⟨t_90, ht_90, H⟩ := H
                    obtain rfl : t_90 = false := ht_90.symm
                    replace H := join_hid H
                    replace H := ite_f H
                    replace H := let_hid H
                    obtain ⟨t_94, ht_94, H⟩ := H
                    replace H := app_hid H
                    cases t_94 with
                    | false =>
                      replace H := ite_f H
                      replace H := bind_hid H
                      obtain ⟨t_100, qt_100, H⟩ := H
                      go_wp2_with fail
                      go_at_call 40
                      refine (Go.Proofs.Ytpbbechgpgnpbaa.GlHeldStringSS.C (lt_65) (1) At_21a ct_21a _   (Lib.hid (Go.Proofs.Ytpbbechgpgnpbaa.GoN.nest_read Pt_65.out)) (Lib.hid (Go.Proofs.Ytpbbechgpgnpbaa.GoN.nest_max Pt_65.out)) qt_100).mono ?_
                      rintro e_t_100 wt_100 ⟨rfl, bt_100⟩
                      have HBwt_100 := Lib.hid (Below.step HBwt_89.out bt_100)
                      replace Ot_10 := Lib.hid (own_below Ot_10.out bt_100)
                      replace Ot_11a := Lib.hid (Go.Proofs.Ytpbbechgpgnpbaa.GoN.nest_below Ot_11a.out bt_100)
                      replace Pt_46 := Lib.hid (own_below Pt_46.out bt_100)
                      replace Pt_65 := Lib.hid (Go.Proofs.Ytpbbechgpgnpbaa.GoN.nest_below Pt_65.out bt_100)
                      replace Ot_39 := Lib.hid (own_below Ot_39.out bt_100)
                      replace Ot_80 := Lib.hid (own_below Ot_80.out bt_100)
                      replace Ot_81a := Lib.hid (Go.Proofs.Ytpbbechgpgnpbaa.GoN.nest_below Ot_81a.out bt_100)
                      clear bt_100
                      replace H := let_hid H
                      obtain ⟨t_103, ht_103, H⟩ := H
                      cases t_103 with
                      | false =>
                        replace H := ite_f H
                        replace H := let_hid H
                        obtain ⟨t_107, ht_107, H⟩ := H
                        cases t_107 with
                        | false =>
                          replace H := ite_f H
                          obtain rfl := ret_hid H
                          go_wp2_with fail
                          go_ret
                          exact ⟨rfl, HBwt_100.out⟩
                        | true =>
                          replace H := ite_t H
                          obtain rfl := ret_hid H
                          go_wp2_with fail
                          go_ret
                          exact ⟨rfl, HBwt_100.out⟩
                      | true =>
                        replace H := ite_t H
                        obtain rfl := ret_hid H
                        go_wp2_with fail
                        go_ret
                        exact ⟨rfl, HBwt_100.out⟩
                    | true =>
                      replace H := ite_t H
                      obtain rfl := ret_hid H
                      go_wp2_with fail
                      go_ret
                      exact ⟨rfl, HBwt_89.out⟩
                | true =>
                  replace H := ite_t H
                  obtain rfl := ret_hid H
                  go_wp2_with fail
                  go_ret
                  exact ⟨rfl, HBwt_70.out⟩
              | true =>
                replace H := ite_t H
                obtain rfl := ret_hid H
                go_wp2_with fail
                go_ret
                exact ⟨rfl, HBwt_70.out⟩
          | true =>
            replace H := ite_t H
            replace H := app_hid H
            replace H := join_hid H
            replace H := ite_t H
            replace H := app_hid H
            replace H := ite_t H
            obtain rfl := ret_hid H
            go_wp2_with fail
            go_ret
            exact ⟨rfl, HBwt_46.out⟩
      | true =>
        replace H := ite_t H
        obtain rfl := ret_hid H
        go_wp2_with fail
        go_ret
        exact ⟨rfl, HBwt_29.out⟩
  | true =>
    replace H := ite_t H
    obtain rfl := ret_hid H
    go_wp2_with fail
    go_ret
    exact ⟨rfl, HBwt_4.out⟩
end Go.Proofs.Ytpbbechgpgnpbaa.GlFnExactOverlapPairs

/- Plain words on stamps: what a stamp is, when one is valid, when a list of them is; the cells of a list of records. No condition. -/
namespace Go.Proofs.Ytpbbechgpgnpbaa.PlainStamp
set_option linter.unusedVariables false

/-- a number lies in a..b -/
def inB (x a b : Int) : Bool := decide (a ≤ x ∧ x ≤ b)
theorem inB_yes {x a b : Int} (h1 : a ≤ x) (h2 : x ≤ b) : inB x a b = true := by unfold inB; exact decide_eq_true ⟨h1, h2⟩
theorem inB_of {x a b : Int} (h : inB x a b = true) : a ≤ x ∧ x ≤ b := by unfold inB at h; exact of_decide_eq_true h
theorem inB_no {x a b : Int} (h : x < a ∨ b < x) : inB x a b = false := by unfold inB; exact decide_eq_false (by omega)

structure St where
  id : Int
  face : Int
  color : Int
  year : Int
deriving DecidableEq

def St.cells (s : St) : List Value := [.int .i64 s.id, .int .i64 s.face, .int .i64 s.color, .int .i64 s.year]
def St.val (s : St) : Value := .agg #[.int .i64 s.id, .int .i64 s.face, .int .i64 s.color, .int .i64 s.year]
/-- each field fits an int -/
def St.fits (s : St) : Prop := (Lit.int .i64 s.id).wf = true ∧ (Lit.int .i64 s.face).wf = true ∧ (Lit.int .i64 s.color).wf = true ∧ (Lit.int .i64 s.year).wf = true

def okSt (s : St) : Bool := inB s.id 1 999 && inB s.face 0 9999 && inB s.color 0 99 && inB s.year 1840 2100
theorem okSt_yes {s : St} (h : okSt s = true) : (1 ≤ s.id ∧ s.id ≤ 999) ∧ (0 ≤ s.face ∧ s.face ≤ 9999) ∧ (0 ≤ s.color ∧ s.color ≤ 99) ∧ (1840 ≤ s.year ∧ s.year ≤ 2100) := by
  unfold okSt at h
  simp only [Bool.and_eq_true] at h
  exact ⟨inB_of h.1.1.1, inB_of h.1.1.2, inB_of h.1.2, inB_of h.2⟩

/-- the stamp at k is valid, and its id is above the one ahead of it -/
def okAt (l : List St) (k : Nat) : Bool :=
  match l[k]? with
  | none => true
  | some s => okSt s && (decide (k = 0) || (match l[k-1]? with | none => true | some r => decide (r.id < s.id)))
def okUp (l : List St) (k : Nat) : Bool := (List.range k).all (okAt l)
theorem okUp_zero (l : List St) : okUp l 0 = true := by simp [okUp]
theorem okUp_succ (l : List St) (k : Nat) : okUp l (k + 1) = (okUp l k && okAt l k) := by simp [okUp, List.range_succ, List.all_append]
theorem okUp_not {l : List St} {k n : Nat} (h : okAt l k = false) (hk : k < n) : okUp l n = false := by
  unfold okUp
  rw [Bool.eq_false_iff]
  intro hall
  have := List.all_eq_true.1 hall k (List.mem_range.2 hk)
  rw [h] at this; exact absurd this (by simp)
/-- a list of at most twelve valid stamps with rising ids -/
def okSts (l : List St) : Bool := decide (l.length ≤ 12) && okUp l l.length
theorem okAt_of {l : List St} {k : Nat} {s : St} (hs : l[k]? = some s) (h : okAt l k = true) : okSt s = true ∧ ∀ r, 0 < k → l[k-1]? = some r → r.id < s.id := by
  unfold okAt at h
  rw [hs] at h
  simp only [Bool.and_eq_true, Bool.or_eq_true, decide_eq_true_eq] at h
  refine ⟨h.1, fun r hk hr => ?_⟩
  rcases h.2 with h0 | h0
  · omega
  · rw [hr] at h0; simpa using h0
theorem okSts_len {l : List St} (h : okSts l = true) : l.length ≤ 12 := by unfold okSts at h; simp only [Bool.and_eq_true, decide_eq_true_eq] at h; exact h.1
theorem okSts_at {l : List St} (h : okSts l = true) {k : Nat} {s : St} (hs : l[k]? = some s) : okSt s = true ∧ ∀ r, 0 < k → l[k-1]? = some r → r.id < s.id := by
  unfold okSts at h
  simp only [Bool.and_eq_true, decide_eq_true_eq] at h
  exact okAt_of hs (List.all_eq_true.1 h.2 k (List.mem_range.2 (List.getElem?_eq_some_iff.1 hs).1))
theorem okSts_mem {l : List St} (h : okSts l = true) {s : St} (hs : s ∈ l) : okSt s = true := by
  obtain ⟨k, hk⟩ := List.getElem?_of_mem hs
  exact (okSts_at h hk).1

/-- the cells of a list of stamps, one after the other -/
def flat (l : List St) : List Value := l.flatMap St.cells
theorem flat_nil : flat [] = [] := rfl
theorem flat_cons (s : St) (l : List St) : flat (s :: l) = s.cells ++ flat l := by simp [flat]
theorem flat_len (l : List St) : (flat l).length = l.length * 4 := by
  induction l with
  | nil => rfl
  | cons s l ih => rw [flat_cons, List.length_append, ih]; simp [St.cells]; omega
theorem flat_at : ∀ (l : List St) (k : Nat) (s : St), l[k]? = some s → ∀ j, j < 4 → (flat l)[k * 4 + j]? = s.cells[j]?
  | [], k, s, h, _, _ => by simp at h
  | r :: l, 0, s, h, j, hj => by
    obtain rfl : r = s := by simpa using h
    rw [flat_cons, List.getElem?_append_left (by simp [St.cells]; omega)]; simp
  | r :: l, k + 1, s, h, j, hj => by
    rw [flat_cons, List.getElem?_append_right (by simp [St.cells]; omega), show (k + 1) * 4 + j - r.cells.length = k * 4 + j by simp [St.cells]; omega]
    exact flat_at l k s (by simpa using h) j hj
end Go.Proofs.Ytpbbechgpgnpbaa.PlainStamp

/- Words for reckoning with plain functions; within and l1In. No condition. -/
namespace Go.Proofs.Ytpbbechgpgnpbaa.QBase
set_option linter.unusedVariables false
set_option linter.unusedSimpArgs false
open Go.RowKit
open Go.Proofs.Ytpbbechgpgnpbaa.GoP Go.Proofs.Ytpbbechgpgnpbaa.PlainStamp

theorem iteK_if {ρ : Type} (c : Bool) (a b : Option ρ) : iteK c a b = if c = true then a else b := by cases c <;> rfl
theorem bind2_some {α β ρ : Type} (a : α) (b : β) (f : α → β → Option ρ) : bind2 (some (a, b)) f = f a b := rfl
theorem bind3_some {α β γ ρ : Type} (a : α) (b : β) (c : γ) (f : α → β → γ → Option ρ) : bind3 (some (a, b, c)) f = f a b c := rfl
theorem unp2_mk {α β ρ : Type} (a : α) (b : β) (f : α → β → Option ρ) : unp2 (a, b) f = f a b := rfl
theorem unp3_mk {α β γ ρ : Type} (a : α) (b : β) (c : γ) (f : α → β → γ → Option ρ) : unp3 (a, b, c) f = f a b c := rfl
theorem guardK_pos {ρ : Type} {p : Prop} [Decidable p] {a : Option ρ} (h : p) : guardK p a = a := if_pos h
theorem cut2 {α β : Type} {x : Option (α × β)} {p : α × β} (h : x = some p) : x = some (p.1, p.2) := h
theorem cut3 {α β γ : Type} {x : Option (α × β × γ)} {p : α × β × γ} (h : x = some p) : x = some (p.1, p.2.1, p.2.2) := h
theorem within_eq (n a b : Int) : GiWithin.P n a b = some (inB n a b) := by
  simp only [GiWithin.P, letK, joinK, appK, iteK_if, inB]
  by_cases h1 : a ≤ n <;> by_cases h2 : n ≤ b <;> simp [h1, h2]
theorem l1In_eq (n a b : Int) : GsL1In.P n a b = some (inB n a b) := by
  simp only [GsL1In.P, letK, joinK, appK, iteK_if, inB]
  by_cases h1 : a ≤ n <;> by_cases h2 : n ≤ b <;> simp [h1, h2]
end Go.Proofs.Ytpbbechgpgnpbaa.QBase

/- Reckoning with the loops of plain functions; lists of valid records with rising ids. No condition. -/
namespace Go.Proofs.Ytpbbechgpgnpbaa.QLoop
set_option linter.unusedVariables false
open Go.RowKit
open Go.Proofs.Ytpbbechgpgnpbaa.GoP Go.Proofs.Ytpbbechgpgnpbaa.QBase

theorem cnt_ex {σ ρ : Type} {f : Nat → σ → (σ → Option ρ) → (σ → Option ρ) → Option ρ} {fin : σ → Option ρ} {Q : ρ → Prop} {n : Nat} (I : Nat → σ → Prop)
    (step : ∀ k s nx, k < n → I k s → (∀ s', I (k + 1) s' → ∃ r, nx s' = some r ∧ Q r) → ∃ r, f k s nx fin = some r ∧ Q r) (done : ∀ s, I n s → ∃ r, fin s = some r ∧ Q r) :
    ∀ m k s, k + m = n → I k s → ∃ r, cntK f m k s fin = some r ∧ Q r := by
  intro m
  induction m with
  | zero => intro k s hk hI; obtain rfl : k = n := by omega
            exact done s hI
  | succ m ih => intro k s hk hI; exact step k s _ (by omega) hI (fun s' h' => ih (k + 1) s' (by omega) h')
theorem cnt_is {σ ρ : Type} {f : Nat → σ → (σ → Option ρ) → (σ → Option ρ) → Option ρ} {fin : σ → Option ρ} {n : Nat} (r : ρ) (I : Nat → σ → Prop)
    (step : ∀ k s nx, k < n → I k s → (∀ s', I (k + 1) s' → nx s' = some r) → f k s nx fin = some r) (done : ∀ s, I n s → fin s = some r) (s : σ) (h0 : I 0 s) : cntK f n 0 s fin = some r := by
  obtain ⟨r', h, rfl⟩ := cnt_ex (Q := fun x => x = r) I (fun k s nx hk hI hn => ⟨r, step k s nx hk hI (fun s' h' => by obtain ⟨_, h, rfl⟩ := hn s' h'; exact h), rfl⟩) (fun s h => ⟨r, done s h, rfl⟩) n 0 s (by omega) h0
  exact h
theorem at_lt {α : Type} {l : List α} {k : Nat} (h : k < l.length) : ∃ x, l[k]? = some x ∧ idx l (k : Int) = some x := ⟨l[k], List.getElem?_eq_getElem h, by rw [idx_nat, List.getElem?_eq_getElem h]⟩
theorem idx_pred {α : Type} {l : List α} {k : Nat} {x : α} (hk : 0 < k) (hb : k ≤ 9223372036854775807) (h : l[k - 1]? = some x) : idx l (IntKind.i64.wrap ((k : Int) - 1)) = some x := by
  rw [IntWalk.i64_in _ (by omega), show ((k : Int) - 1) = ((k - 1 : Nat) : Int) by omega, idx_nat, h]
theorem take_next {α : Type} {l : List α} {k : Nat} {x : α} (h : l[k]? = some x) : l.take (k + 1) = l.take k ++ [x] := by
  obtain ⟨hk, e⟩ := List.getElem?_eq_some_iff.1 h
  rw [List.take_succ_eq_append_getElem hk, e]
theorem all_next {α : Type} {p : α → Bool} {l : List α} {k : Nat} {x : α} (h : l[k]? = some x) : (l.take (k + 1)).all p = ((l.take k).all p && p x) := by
  rw [take_next h]; simp
theorem not_all {α : Type} {p : α → Bool} {l : List α} {k : Nat} {x : α} (h : l[k]? = some x) (hp : p x = false) : l.all p = false := by
  rw [Bool.eq_false_iff]
  intro ha
  have := List.all_eq_true.1 ha x (List.mem_of_getElem? h)
  rw [hp] at this; exact absurd this (by simp)
theorem wrap_in {x : Int} (h1 : -9223372036854775808 ≤ x) (h2 : x ≤ 9223372036854775807) : IntKind.i64.wrap x = x := IntWalk.i64_in _ (by omega)

/-- valid, and above the one ahead of it -/
def upAt {α : Type} (ok : α → Bool) (id : α → Int) (l : List α) (k : Nat) : Bool :=
  match l[k]? with
  | none => true
  | some s => ok s && (decide (k = 0) || (match l[k-1]? with | none => true | some r => decide (id r < id s)))
def upTo {α : Type} (ok : α → Bool) (id : α → Int) (l : List α) (k : Nat) : Bool := (List.range k).all (upAt ok id l)
theorem upTo_zero {α : Type} (ok : α → Bool) (id : α → Int) (l : List α) : upTo ok id l 0 = true := rfl
theorem upTo_succ {α : Type} (ok : α → Bool) (id : α → Int) (l : List α) (k : Nat) : upTo ok id l (k + 1) = (upTo ok id l k && upAt ok id l k) := by simp [upTo, List.range_succ, List.all_append]
theorem upTo_not {α : Type} {ok : α → Bool} {id : α → Int} {l : List α} {k n : Nat} (h : upAt ok id l k = false) (hk : k < n) : upTo ok id l n = false := by
  unfold upTo
  rw [Bool.eq_false_iff]
  intro ha
  have := List.all_eq_true.1 ha k (List.mem_range.2 hk)
  rw [h] at this; exact absurd this (by simp)
/-- a list of at most m valid records with rising ids -/
def upL {α : Type} (m : Nat) (ok : α → Bool) (id : α → Int) (l : List α) : Bool := decide (l.length ≤ m) && upTo ok id l l.length
theorem upAt_bad {α : Type} {ok : α → Bool} {id : α → Int} {l : List α} {k : Nat} {s : α} (hs : l[k]? = some s) (h : ok s = false) : upAt ok id l k = false := by unfold upAt; rw [hs]; simp [h]
theorem upAt_first {α : Type} {ok : α → Bool} {id : α → Int} {l : List α} {s : α} (hs : l[0]? = some s) (h : ok s = true) : upAt ok id l 0 = true := by unfold upAt; rw [hs]; simp [h]
theorem upAt_next {α : Type} {ok : α → Bool} {id : α → Int} {l : List α} {k : Nat} {s r : α} (hs : l[k]? = some s) (hr : l[k-1]? = some r) (hk : 0 < k) (h : ok s = true) : upAt ok id l k = decide (id r < id s) := by
  unfold upAt; rw [hs]; simp only [hr, h, Bool.true_and, decide_eq_false (show ¬ k = 0 by omega), Bool.false_or]
theorem upL_len {α : Type} {m : Nat} {ok : α → Bool} {id : α → Int} {l : List α} (h : upL m ok id l = true) : l.length ≤ m := by unfold upL at h; simp only [Bool.and_eq_true, decide_eq_true_eq] at h; exact h.1
theorem upL_ok {α : Type} {m : Nat} {ok : α → Bool} {id : α → Int} {l : List α} (h : upL m ok id l = true) {k : Nat} {s : α} (hs : l[k]? = some s) : ok s = true := by
  unfold upL at h
  simp only [Bool.and_eq_true, decide_eq_true_eq] at h
  have := List.all_eq_true.1 h.2 k (List.mem_range.2 (List.getElem?_eq_some_iff.1 hs).1)
  unfold upAt at this
  rw [hs] at this
  simp only [Bool.and_eq_true] at this
  exact this.1
theorem upL_mem {α : Type} {m : Nat} {ok : α → Bool} {id : α → Int} {l : List α} (h : upL m ok id l = true) {s : α} (hs : s ∈ l) : ok s = true := by
  obtain ⟨k, hk⟩ := List.getElem?_of_mem hs
  exact upL_ok h hk
/-- a loop that goes through a list of records and stops with 'false' at the first that is bad -/
theorem up_loop {α : Type} {ok : α → Bool} {id : α → Int} {l : List α} {R : Type} {no : R} {f : Nat → Unit → (Unit → Option R) → (Unit → Option R) → Option R} {fin : Unit → Option R}
    (step : ∀ k nx s, l[k]? = some s → (ok s = false → f k () nx fin = some no) ∧ (ok s = true → (k = 0 → f k () nx fin = nx ()) ∧ (0 < k → ∀ r, l[k-1]? = some r → (id r < id s → f k () nx fin = nx ()) ∧ (id s ≤ id r → f k () nx fin = some no)))) :
    cntK f l.length 0 () fin = if upTo ok id l l.length then fin () else some no := by
  have key : ∀ m k, k + m = l.length → upTo ok id l k = true → cntK f m k () fin = if upTo ok id l l.length then fin () else some no := by
    intro m
    induction m with
    | zero => intro k hk hu; obtain rfl : k = l.length := by omega
              rw [hu]; rfl
    | succ m ih =>
      intro k hk hu
      have hlt : k < l.length := by omega
      obtain ⟨s, hs, _⟩ := at_lt hlt
      obtain ⟨h1, h2⟩ := step k (fun s' => cntK f m (k + 1) s' fin) s hs
      show f k () _ fin = _
      cases hok : ok s with
      | false => rw [h1 hok, upTo_not (upAt_bad hs hok) hlt]; rfl
      | true =>
        obtain ⟨h3, h4⟩ := h2 hok
        by_cases hk0 : k = 0
        · rw [h3 hk0]
          subst hk0
          exact ih 1 (by omega) (by rw [upTo_succ, hu, upAt_first hs hok]; rfl)
        · obtain ⟨r, hr, _⟩ := at_lt (l := l) (k := k - 1) (by omega)
          obtain ⟨h5, h6⟩ := h4 (by omega) r hr
          by_cases hlt2 : id r < id s
          · rw [h5 hlt2]
            exact ih (k + 1) (by omega) (by rw [upTo_succ, hu, upAt_next hs hr (by omega) hok]; simpa using hlt2)
          · rw [h6 (by omega), upTo_not (by rw [upAt_next hs hr (by omega) hok]; simpa using hlt2) hlt]; rfl
  exact key l.length 0 (by omega) (upTo_zero ok id l)
end Go.Proofs.Ytpbbechgpgnpbaa.QLoop

/- Lists of valid records in strictly rising order of any kind; texts in the order of their bytes. (QOrd) No condition but those of each theorem. -/
namespace Go.Proofs.Ytpbbechgpgnpbaa.QOrd
set_option linter.unusedVariables false
set_option linter.unusedSimpArgs false
open Go.RowKit
open Go.Proofs.Ytpbbechgpgnpbaa.GoP Go.Proofs.Ytpbbechgpgnpbaa.PlainStamp Go.Proofs.Ytpbbechgpgnpbaa.QBase Go.Proofs.Ytpbbechgpgnpbaa.QLoop

/-- texts in the order of their bytes -/
def bl (a b : ByteArray) : Bool := Op.bytesLess a.toList b.toList
theorem bl_self' : ∀ x, Op.bytesLess x x = false
  | [] => rfl
  | a :: x => by
    have h1 : ¬ a < a := fun k => by rw [UInt8.lt_iff_toNat_lt] at k; omega
    simp [Op.bytesLess, h1, bl_self' x]
theorem bl_total' : ∀ x y, x ≠ y → Op.bytesLess x y = !(Op.bytesLess y x)
  | [], [], h => absurd rfl h
  | [], b :: y, _ => by simp [Op.bytesLess]
  | a :: x, [], _ => by simp [Op.bytesLess]
  | a :: x, b :: y, h => by
    by_cases hab : a = b
    · subst hab
      have h1 : ¬ a < a := fun k => by rw [UInt8.lt_iff_toNat_lt] at k; omega
      have := bl_total' x y (fun e => h (by rw [e]))
      simp [Op.bytesLess, h1, this]
    · have hne : a.toNat ≠ b.toNat := fun e => hab (UInt8.toNat_inj.1 e)
      by_cases hlt : a < b
      · have h2 : ¬ b < a := fun k => by rw [UInt8.lt_iff_toNat_lt] at k hlt; omega
        simp [Op.bytesLess, hlt, h2, Ne.symm hab]
      · have h2 : b < a := by rw [UInt8.lt_iff_toNat_lt] at hlt ⊢; omega
        simp [Op.bytesLess, hlt, h2, hab]
theorem bl_trans' : ∀ x y z, Op.bytesLess x y = true → Op.bytesLess y z = true → Op.bytesLess x z = true
  | [], _, [], h1, h2 => by rename_i y; cases y <;> simp [Op.bytesLess] at h1 h2
  | [], _, c :: z, _, _ => by simp [Op.bytesLess]
  | a :: x, [], _, h1, _ => by simp [Op.bytesLess] at h1
  | a :: x, b :: y, [], _, h2 => by simp [Op.bytesLess] at h2
  | a :: x, b :: y, c :: z, h1, h2 => by
    simp only [Op.bytesLess, Bool.or_eq_true, decide_eq_true_eq, Bool.and_eq_true, beq_iff_eq] at h1 h2 ⊢
    rcases h1 with h1 | ⟨rfl, h1⟩
    · rcases h2 with h2 | ⟨rfl, h2⟩
      · left; rw [UInt8.lt_iff_toNat_lt] at h1 h2 ⊢; omega
      · left; exact h1
    · rcases h2 with h2 | ⟨rfl, h2⟩
      · left; exact h2
      · right; exact ⟨rfl, bl_trans' x y z h1 h2⟩
theorem list_inj {a b : ByteArray} (h : a.toList = b.toList) : a = b := by
  rw [Lib.toList_data, Lib.toList_data] at h
  cases a; cases b; congr 1; exact Array.toList_inj.1 h
theorem bl_self (a : ByteArray) : bl a a = false := bl_self' _
theorem bl_total {a b : ByteArray} (h : a ≠ b) : bl a b = !(bl b a) := bl_total' _ _ (fun e => h (list_inj e))
theorem bl_trans {a b c : ByteArray} (h1 : bl a b = true) (h2 : bl b c = true) : bl a c = true := bl_trans' _ _ _ h1 h2
theorem bl_asymm {a b : ByteArray} (h : bl a b = true) : bl b a = false := by
  by_cases e : a = b
  · rw [e]; exact bl_self b
  · rw [bl_total e] at h; simpa using h
theorem bl_ne {a b : ByteArray} (h : bl a b = true) : a ≠ b := fun e => by rw [e, bl_self] at h; exact absurd h (by simp)
/-- 'not above', as the program asks it -/
theorem bl_le (a b : ByteArray) : (Op.bytesLess a.toList b.toList || a.toList == b.toList) = !(bl b a) := by
  by_cases e : a = b
  · subst e; rw [bl_self]; simp
  · have h1 : (a.toList == b.toList) = false := by rw [beq_eq_false_iff_ne]; exact fun h => e (list_inj h)
    rw [h1, Bool.or_false]; exact bl_total e
theorem bl_lt (a b : ByteArray) : Op.bytesLess a.toList b.toList = bl a b := rfl
theorem eq_list (a b : ByteArray) : (a.toList == b.toList) = decide (a = b) := by
  by_cases e : a = b
  · subst e; simp
  · rw [decide_eq_false e, beq_eq_false_iff_ne]; exact fun h => e (list_inj h)

/-- valid, and behind the one ahead of it -/
def riseAt {α : Type} (ok : α → Bool) (lt : α → α → Bool) (l : List α) (k : Nat) : Bool :=
  match l[k]? with
  | none => true
  | some s => ok s && (decide (k = 0) || (match l[k-1]? with | none => true | some r => lt r s))
def riseTo {α : Type} (ok : α → Bool) (lt : α → α → Bool) (l : List α) (k : Nat) : Bool := (List.range k).all (riseAt ok lt l)
theorem riseTo_zero {α : Type} (ok : α → Bool) (lt : α → α → Bool) (l : List α) : riseTo ok lt l 0 = true := rfl
theorem riseTo_succ {α : Type} (ok : α → Bool) (lt : α → α → Bool) (l : List α) (k : Nat) : riseTo ok lt l (k + 1) = (riseTo ok lt l k && riseAt ok lt l k) := by simp [riseTo, List.range_succ, List.all_append]
theorem riseTo_not {α : Type} {ok : α → Bool} {lt : α → α → Bool} {l : List α} {k n : Nat} (h : riseAt ok lt l k = false) (hk : k < n) : riseTo ok lt l n = false := by
  unfold riseTo
  rw [Bool.eq_false_iff]
  intro ha
  have := List.all_eq_true.1 ha k (List.mem_range.2 hk)
  rw [h] at this; exact absurd this (by simp)
def riseL {α : Type} (m : Nat) (ok : α → Bool) (lt : α → α → Bool) (l : List α) : Bool := decide (l.length ≤ m) && riseTo ok lt l l.length
theorem riseAt_bad {α : Type} {ok : α → Bool} {lt : α → α → Bool} {l : List α} {k : Nat} {s : α} (hs : l[k]? = some s) (h : ok s = false) : riseAt ok lt l k = false := by unfold riseAt; rw [hs]; simp [h]
theorem riseAt_first {α : Type} {ok : α → Bool} {lt : α → α → Bool} {l : List α} {s : α} (hs : l[0]? = some s) (h : ok s = true) : riseAt ok lt l 0 = true := by unfold riseAt; rw [hs]; simp [h]
theorem riseAt_next {α : Type} {ok : α → Bool} {lt : α → α → Bool} {l : List α} {k : Nat} {s r : α} (hs : l[k]? = some s) (hr : l[k-1]? = some r) (hk : 0 < k) (h : ok s = true) : riseAt ok lt l k = lt r s := by
  unfold riseAt; rw [hs]; simp only [hr, h, Bool.true_and, decide_eq_false (show ¬ k = 0 by omega), Bool.false_or]
theorem riseL_len {α : Type} {m : Nat} {ok : α → Bool} {lt : α → α → Bool} {l : List α} (h : riseL m ok lt l = true) : l.length ≤ m := by unfold riseL at h; simp only [Bool.and_eq_true, decide_eq_true_eq] at h; exact h.1
theorem riseTo_at {α : Type} {ok : α → Bool} {lt : α → α → Bool} {l : List α} {n : Nat} (h : riseTo ok lt l n = true) {k : Nat} (hk : k < n) : riseAt ok lt l k = true := List.all_eq_true.1 h k (List.mem_range.2 hk)
theorem riseL_ok {α : Type} {m : Nat} {ok : α → Bool} {lt : α → α → Bool} {l : List α} (h : riseL m ok lt l = true) {k : Nat} {s : α} (hs : l[k]? = some s) : ok s = true := by
  unfold riseL at h
  simp only [Bool.and_eq_true, decide_eq_true_eq] at h
  have := riseTo_at h.2 (List.getElem?_eq_some_iff.1 hs).1
  unfold riseAt at this
  rw [hs] at this
  simp only [Bool.and_eq_true] at this
  exact this.1
theorem riseL_mem {α : Type} {m : Nat} {ok : α → Bool} {lt : α → α → Bool} {l : List α} (h : riseL m ok lt l = true) {s : α} (hs : s ∈ l) : ok s = true := by
  obtain ⟨k, hk⟩ := List.getElem?_of_mem hs
  exact riseL_ok h hk
theorem riseL_step {α : Type} {m : Nat} {ok : α → Bool} {lt : α → α → Bool} {l : List α} (h : riseL m ok lt l = true) {k : Nat} {x y : α} (hx : l[k]? = some x) (hy : l[k + 1]? = some y) : lt x y = true := by
  unfold riseL at h
  simp only [Bool.and_eq_true, decide_eq_true_eq] at h
  have := riseTo_at h.2 (List.getElem?_eq_some_iff.1 hy).1
  unfold riseAt at this
  rw [hy] at this
  simp only [Nat.add_sub_cancel, hx, Bool.and_eq_true, Bool.or_eq_true, decide_eq_true_eq] at this
  rcases this.2 with h0 | h0
  · omega
  · exact h0
theorem riseL_lt {α : Type} {m : Nat} {ok : α → Bool} {lt : α → α → Bool} (tr : ∀ a b c, lt a b = true → lt b c = true → lt a c = true) {l : List α} (h : riseL m ok lt l = true) {i j : Nat} {x y : α} (hij : i < j) (hx : l[i]? = some x) (hy : l[j]? = some y) : lt x y = true := by
  obtain ⟨d, rfl⟩ : ∃ d, j = i + d + 1 := ⟨j - i - 1, by omega⟩
  clear hij
  induction d generalizing y with
  | zero => exact riseL_step h hx hy
  | succ d ih =>
    obtain ⟨z, hz, _⟩ := at_lt (l := l) (k := i + d + 1) (by have := (List.getElem?_eq_some_iff.1 hy).1; omega)
    exact tr _ _ _ (ih hz) (riseL_step (k := i + d + 1) h hz (by rw [← hy]; rfl))
/-- a loop that goes through a list of records and stops with 'no' at the first that is bad -/
theorem rise_loop {α : Type} {ok : α → Bool} {lt : α → α → Bool} {l : List α} {R : Type} {no : R} {f : Nat → Unit → (Unit → Option R) → (Unit → Option R) → Option R} {fin : Unit → Option R}
    (step : ∀ k nx s, l[k]? = some s → (ok s = false → f k () nx fin = some no) ∧ (ok s = true → (k = 0 → f k () nx fin = nx ()) ∧ (0 < k → ∀ r, l[k-1]? = some r → (lt r s = true → f k () nx fin = nx ()) ∧ (lt r s = false → f k () nx fin = some no)))) :
    cntK f l.length 0 () fin = if riseTo ok lt l l.length then fin () else some no := by
  have key : ∀ m k, k + m = l.length → riseTo ok lt l k = true → cntK f m k () fin = if riseTo ok lt l l.length then fin () else some no := by
    intro m
    induction m with
    | zero => intro k hk hu; obtain rfl : k = l.length := by omega
              rw [hu]; rfl
    | succ m ih =>
      intro k hk hu
      have hlt : k < l.length := by omega
      obtain ⟨s, hs, _⟩ := at_lt hlt
      obtain ⟨h1, h2⟩ := step k (fun s' => cntK f m (k + 1) s' fin) s hs
      show f k () _ fin = _
      cases hok : ok s with
      | false => rw [h1 hok, riseTo_not (riseAt_bad hs hok) hlt]; rfl
      | true =>
        obtain ⟨h3, h4⟩ := h2 hok
        by_cases hk0 : k = 0
        · rw [h3 hk0]
          subst hk0
          exact ih 1 (by omega) (by rw [riseTo_succ, hu, riseAt_first hs hok]; rfl)
        · obtain ⟨r, hr, _⟩ := at_lt (l := l) (k := k - 1) (by omega)
          obtain ⟨h5, h6⟩ := h4 (by omega) r hr
          cases hl : lt r s with
          | true =>
            rw [h5 hl]
            exact ih (k + 1) (by omega) (by rw [riseTo_succ, hu, riseAt_next hs hr (by omega) hok, hl]; rfl)
          | false => rw [h6 hl, riseTo_not (by rw [riseAt_next hs hr (by omega) hok, hl]) hlt]; rfl
  exact key l.length 0 (by omega) (riseTo_zero ok lt l)
end Go.Proofs.Ytpbbechgpgnpbaa.QOrd

/- Loops that count, that search, and that gather behind what is there already: the plain loops' answers. (QCount) No condition but those of each theorem. -/
namespace Go.Proofs.Ytpbbechgpgnpbaa.QCount
set_option linter.unusedVariables false
set_option linter.unusedSimpArgs false
open Go.RowKit
open Go.Proofs.Ytpbbechgpgnpbaa.GoP Go.Proofs.Ytpbbechgpgnpbaa.PlainStamp Go.Proofs.Ytpbbechgpgnpbaa.QBase Go.Proofs.Ytpbbechgpgnpbaa.QLoop

theorem count_list {α R : Type} {l : List α} {p : α → Bool} {f : Nat → Int → (Int → Option R) → (Int → Option R) → Option R} {fin : Int → Option R}
    (step : ∀ k nx x (s : Nat), l[k]? = some x → s ≤ k → f k (s : Int) nx fin = nx ((if p x = true then s + 1 else s : Nat) : Int)) : cntK f l.length 0 0 fin = fin ((l.filter p).length : Int) := by
  have key : ∀ m k, k + m = l.length → cntK f m k (((l.take k).filter p).length : Int) fin = fin ((l.filter p).length : Int) := by
    intro m
    induction m with
    | zero => intro k hk; obtain rfl : k = l.length := by omega
              rw [List.take_of_length_le (Nat.le_refl _)]; rfl
    | succ m ih =>
      intro k hk
      obtain ⟨x, hx, _⟩ := at_lt (l := l) (k := k) (by omega)
      show f k _ _ fin = _
      have hle : ((l.take k).filter p).length ≤ k := by
        have := List.length_filter_le p (l.take k)
        rw [List.length_take] at this
        omega
      rw [step k _ x _ hx hle, ← ih (k + 1) (by omega), take_next hx, List.filter_append, List.length_append]
      cases hp : p x <;> simp [List.filter, hp]
  exact key l.length 0 (by omega)
theorem count_up {R : Type} {n : Nat} {p : Nat → Bool} {f : Nat → Int → (Int → Option R) → (Int → Option R) → Option R} {fin : Int → Option R}
    (step : ∀ k nx (s : Nat), k < n → s ≤ k → f k (s : Int) nx fin = nx ((if p k = true then s + 1 else s : Nat) : Int)) : cntK f n 0 0 fin = fin (((List.range n).filter p).length : Int) := by
  have h := count_list (l := List.range n) (p := p) (f := f) (fin := fin) (fun k nx x s hx hs => by
    obtain ⟨hk, rfl⟩ := List.getElem?_eq_some_iff.1 hx
    rw [List.length_range] at hk
    rw [List.getElem_range]
    exact step k nx s hk hs)
  rw [List.length_range] at h
  exact h
theorem filter_zero {α : Type} (l : List α) (p : α → Bool) : (((l.filter p).length : Int) == 0) = !(l.any p) := by
  rw [Bool.eq_iff_iff]
  simp only [beq_iff_eq, Bool.not_eq_true', List.any_eq_false]
  constructor
  · intro h x hx hp
    have : x ∈ l.filter p := List.mem_filter.2 ⟨hx, hp⟩
    have := List.length_pos_of_mem this
    omega
  · intro h
    have : l.filter p = [] := List.filter_eq_nil_iff.2 h
    rw [this]; rfl
/-- the first place at which the test holds -/
def firstI {α : Type} (p : α → Bool) (l : List α) : Int := match l.findIdx? p with | some i => (i : Int) | none => -1
theorem find_loop {α R : Type} {l : List α} {p : α → Bool} {f : Nat → Unit → (Unit → Option R) → (Unit → Option R) → Option R} {fin : Unit → Option R} {yes : Nat → Option R}
    (step : ∀ k nx x, l[k]? = some x → f k () nx fin = if p x = true then yes k else nx ()) : cntK f l.length 0 () fin = match l.findIdx? p with | some i => yes i | none => fin () := by
  have key : ∀ m k, k + m = l.length → (∀ i x, i < k → l[i]? = some x → p x = false) → cntK f m k () fin = match l.findIdx? p with | some i => yes i | none => fin () := by
    intro m
    induction m with
    | zero =>
      intro k hk hu; obtain rfl : k = l.length := by omega
      have : l.findIdx? p = none := by
        rw [List.findIdx?_eq_none_iff]
        intro x hx
        obtain ⟨i, hi⟩ := List.getElem?_of_mem hx
        exact hu i x (List.getElem?_eq_some_iff.1 hi).1 hi
      rw [this]; rfl
    | succ m ih =>
      intro k hk hu
      obtain ⟨x, hx, _⟩ := at_lt (l := l) (k := k) (by omega)
      show f k () _ fin = _
      rw [step k _ x hx]
      cases hp : p x with
      | true =>
        have : l.findIdx? p = some k := by
          rw [List.findIdx?_eq_some_iff_getElem]
          obtain ⟨hlt, e⟩ := List.getElem?_eq_some_iff.1 hx
          refine ⟨hlt, by rw [e]; exact hp, fun j hj => ?_⟩
          rw [hu j l[j] hj (List.getElem?_eq_getElem (by omega))]; simp
        rw [this, if_pos rfl]
      | false =>
        rw [if_neg (by simp)]
        refine ih (k + 1) (by omega) (fun i y hi hy => ?_)
        by_cases he : i = k
        · subst he; rw [hx] at hy; obtain rfl := Option.some.inj hy; exact hp
        · exact hu i y (by omega) hy
  exact key l.length 0 (by omega) (fun i x hi _ => by omega)
theorem any_find {α : Type} (p : α → Bool) (l : List α) : decide (0 ≤ firstI p l) = l.any p := by
  unfold firstI
  cases h : l.findIdx? p with
  | none =>
    rw [List.findIdx?_eq_none_iff] at h
    have : l.any p = false := by rw [List.any_eq_false]; intro x hx; rw [h x hx]; simp
    rw [this]; rfl
  | some i =>
    rw [List.findIdx?_eq_some_iff_getElem] at h
    obtain ⟨hi, hp, _⟩ := h
    have : l.any p = true := List.any_eq_true.2 ⟨l[i], List.getElem_mem hi, hp⟩
    rw [this]; simp
theorem gatherA {α β R : Type} {l : List α} {p : α → Bool} {g : α → β} {acc : List β} {f : Nat → List β → (List β → Option R) → (List β → Option R) → Option R} {fin : List β → Option R} (hl : acc.length + l.length ≤ 1099511627776)
    (step : ∀ k nx x s, l[k]? = some x → s.length ≤ 1099511627776 → f k s nx fin = nx (if p x = true then s ++ [g x] else s)) : cntK f l.length 0 acc fin = fin (acc ++ (l.filter p).map g) := by
  have key : ∀ m k, k + m = l.length → cntK f m k (acc ++ ((l.take k).filter p).map g) fin = fin (acc ++ (l.filter p).map g) := by
    intro m
    induction m with
    | zero => intro k hk; obtain rfl : k = l.length := by omega
              rw [List.take_of_length_le (Nat.le_refl _)]; rfl
    | succ m ih =>
      intro k hk
      obtain ⟨x, hx, _⟩ := at_lt (l := l) (k := k) (by omega)
      show f k _ _ fin = _
      have hle : (acc ++ ((l.take k).filter p).map g).length ≤ 1099511627776 := by
        rw [List.length_append, List.length_map]
        have := List.length_filter_le p (l.take k)
        rw [List.length_take] at this
        omega
      rw [step k _ x _ hx hle, ← ih (k + 1) (by omega), take_next hx, List.filter_append, List.map_append]
      cases hp : p x <;> simp [List.filter, hp]
  have h0 := key l.length 0 (by omega)
  simpa using h0
/-- a loop with fuel over what stands from k on -/
theorem gatherL {α β R : Type} {l : List α} {p : α → Bool} {g : α → β} {f : List β × Int → (List β × Int → Option R) → (List β × Int → Option R) → Option R} {fin : List β × Int → Option R}
    (step : ∀ (k : Nat) nx x s, l[k]? = some x → s.length ≤ 1099511627776 → f (s, (k : Int)) nx fin = nx (if p x = true then s ++ [g x] else s, ((k + 1 : Nat) : Int)))
    (stop : ∀ s nx, f (s, (l.length : Int)) nx fin = fin (s, (l.length : Int))) : ∀ (fuel k : Nat) (acc : List β), k ≤ l.length → l.length - k < fuel → acc.length + l.length ≤ 1099511627776 + k → loopK f fuel (acc, (k : Int)) fin = fin (acc ++ ((l.drop k).filter p).map g, (l.length : Int)) := by
  intro fuel
  induction fuel with
  | zero => intro k acc hk hf; omega
  | succ m ih =>
    intro k acc hk hf ha
    show f (acc, (k : Int)) _ fin = _
    by_cases he : k = l.length
    · subst he; rw [stop, List.drop_of_length_le (Nat.le_refl _)]; simp
    · obtain ⟨x, hx, _⟩ := at_lt (l := l) (k := k) (by omega)
      rw [step k _ x acc hx (by omega), ih (k + 1) _ (by omega) (by omega) (by
        split
        · rw [List.length_append, List.length_singleton]; omega
        · omega)]
      obtain ⟨hlt, e⟩ := List.getElem?_eq_some_iff.1 hx
      rw [List.drop_eq_getElem_cons hlt, e]
      cases hp : p x <;> simp [List.filter, hp]
end Go.Proofs.Ytpbbechgpgnpbaa.QCount

/- loop.example/g01062/impl.HueDistance as a plain function, and the contract of the program's: where the plain one has an answer, the program has it. Conditions: slices read as lists. -/
namespace Go.Proofs.Ytpbbechgpgnpbaa.GiHueDistance
set_option linter.unusedVariables false
set_option linter.unusedSimpArgs false
open Go.RowKit
open Go.Proofs.Ytpbbechgpgnpbaa.Rowed Go.Proofs.Ytpbbechgpgnpbaa.Turn Go.Proofs.Ytpbbechgpgnpbaa.Aid Go.Proofs.Ytpbbechgpgnpbaa.GoP Go.Proofs.Ytpbbechgpgnpbaa.GoM

def P (a : Int) (b : Int) : Option (Int × Bool) :=
  Option.bind (Go.Proofs.Ytpbbechgpgnpbaa.GiIsHue.P a) fun (t_3 : Bool) =>
  letK (!t_3) fun (t_4 : Bool) =>
  joinK (fun (t_9 : Bool) =>
  iteK t_9
  (some (0, false))
  (Option.bind (Go.Proofs.Ytpbbechgpgnpbaa.GiLoHueDistance.P a b) fun (t_14 : Int) =>
  some (t_14, true))) fun jt_9 => iteK t_4 (appK jt_9 true) (Option.bind (Go.Proofs.Ytpbbechgpgnpbaa.GiIsHue.P b) fun (t_7 : Bool) =>
  letK (!t_7) fun (t_8 : Bool) =>
  appK jt_9 t_8)

set_option maxRecDepth 100000 in
set_option maxHeartbeats 2000000 in
theorem C (a : Int) (b : Int)   (w : World)   {r0 : Int} {r1 : Bool} (H : Hid (P a b = some (r0, r1))) :
    Calls Try.prog 25 #[.int .i64 a, .int .i64 b] w (Gives (.tuple #[.int .i64 r0, .bool r1]) w) := by
  have HB := Lib.hid (Below.refl w.heap.size w)
  unfold P at H
  go_enter Try.func25, Try.ntmps25
  replace H := bind_hid H
  obtain ⟨t_3, qt_3, H⟩ := H
  go_wp2_with fail
  go_at_call 57
  refine (Go.Proofs.Ytpbbechgpgnpbaa.GiIsHue.C (a)  _    qt_3).mono ?_
  rintro e_t_3 wt_3 ⟨rfl, bt_3⟩
  have HBwt_3 := Lib.hid (Below.step HB.out bt_3)
  clear bt_3
  cases t_3 with
  | false =>
    replace H := let_hid H
    obtain ⟨t_4, ht_4, H⟩ := H
    obtain rfl : t_4 = true := ht_4.symm
    replace H := join_hid H
    replace H := ite_t H
    replace H := app_hid H
    replace H := ite_t H
    cases ret_hid H
    go_wp2_with fail
    go_ret2
    exact ⟨rfl, HBwt_3.out⟩
  | true =>
    replace H := let_hid H
    obtain ⟨t_4, ht_4, H⟩ := H
    obtain rfl : t_4 = false := ht_4.symm
    replace H := join_hid H
    replace H := ite_f H
    replace H := bind_hid H
    obtain ⟨t_7, qt_7, H⟩ := H
    go_wp2_with fail
    go_at_call 57
    refine (Go.Proofs.Ytpbbechgpgnpbaa.GiIsHue.C (b)  _    qt_7).mono ?_
    rintro e_t_7 wt_7 ⟨rfl, bt_7⟩
    have HBwt_7 := Lib.hid (Below.step HBwt_3.out bt_7)
    clear bt_7
    cases t_7 with
    | false =>
      replace H := let_hid H
      obtain ⟨t_8, ht_8, H⟩ := H
      obtain rfl : t_8 = true := ht_8.symm
      replace H := app_hid H
      replace H := ite_t H
      cases ret_hid H
      go_wp2_with fail
      go_ret2
      exact ⟨rfl, HBwt_7.out⟩
    | true =>
      replace H := let_hid H
      obtain ⟨t_8, ht_8, H⟩ := H
      obtain rfl : t_8 = false := ht_8.symm
      replace H := app_hid H
      replace H := ite_f H
      replace H := bind_hid H
      obtain ⟨t_14, qt_14, H⟩ := H
      go_wp2_with fail
      go_at_call 66
      refine (Go.Proofs.Ytpbbechgpgnpbaa.GiLoHueDistance.C (a) (b)  _    qt_14).mono ?_
      rintro e_t_14 wt_14 ⟨rfl, bt_14⟩
      have HBwt_14 := Lib.hid (Below.step HBwt_7.out bt_14)
      clear bt_14
      cases ret_hid H
      go_wp2_with fail
      go_ret2
      exact ⟨rfl, HBwt_14.out⟩
end Go.Proofs.Ytpbbechgpgnpbaa.GiHueDistance

/- loop.example/g01062/spec.HueDistance as a plain function, and the contract of the program's: where the plain one has an answer, the program has it. Conditions: slices read as lists. -/
namespace Go.Proofs.Ytpbbechgpgnpbaa.GsHueDistance
set_option linter.unusedVariables false
set_option linter.unusedSimpArgs false
open Go.RowKit
open Go.Proofs.Ytpbbechgpgnpbaa.Rowed Go.Proofs.Ytpbbechgpgnpbaa.Turn Go.Proofs.Ytpbbechgpgnpbaa.Aid Go.Proofs.Ytpbbechgpgnpbaa.GoP Go.Proofs.Ytpbbechgpgnpbaa.GoM

def P (a : Int) (b : Int) : Option (Int × Bool) :=
  Option.bind (Go.Proofs.Ytpbbechgpgnpbaa.GsL7Hue.P a) fun (t_3 : Bool) =>
  letK (!t_3) fun (t_4 : Bool) =>
  joinK (fun (t_9 : Bool) =>
  iteK t_9
  (some (0, false))
  (Option.bind (Go.Proofs.Ytpbbechgpgnpbaa.GsL7Far.P a b) fun (t_14 : Int) =>
  some (t_14, true))) fun jt_9 => iteK t_4 (appK jt_9 true) (Option.bind (Go.Proofs.Ytpbbechgpgnpbaa.GsL7Hue.P b) fun (t_7 : Bool) =>
  letK (!t_7) fun (t_8 : Bool) =>
  appK jt_9 t_8)

set_option maxRecDepth 100000 in
set_option maxHeartbeats 2000000 in
theorem C (a : Int) (b : Int)   (w : World)   {r0 : Int} {r1 : Bool} (H : Hid (P a b = some (r0, r1))) :
    Calls Try.prog 24 #[.int .i64 a, .int .i64 b] w (Gives (.tuple #[.int .i64 r0, .bool r1]) w) := by
  have HB := Lib.hid (Below.refl w.heap.size w)
  unfold P at H
  go_enter Try.func24, Try.ntmps24
  replace H := bind_hid H
  obtain ⟨t_3, qt_3, H⟩ := H
  go_wp2_with fail
  go_at_call 64
  refine (Go.Proofs.Ytpbbechgpgnpbaa.GsL7Hue.C (a)  _    qt_3).mono ?_
  rintro e_t_3 wt_3 ⟨rfl, bt_3⟩
  have HBwt_3 := Lib.hid (Below.step HB.out bt_3)
  clear bt_3
  cases t_3 with
  | false =>
    replace H := let_hid H
    obtain ⟨t_4, ht_4, H⟩ := H
    obtain rfl : t_4 = true := ht_4.symm
    replace H := join_hid H
    replace H := ite_t H
    replace H := app_hid H
    replace H := ite_t H
    cases ret_hid H
    go_wp2_with fail
    go_ret2
    exact ⟨rfl, HBwt_3.out⟩
  | true =>
    replace H := let_hid H
    obtain ⟨t_4, ht_4, H⟩ := H
    obtain rfl : t_4 = false := ht_4.symm
    replace H := join_hid H
    replace H := ite_f H
    replace H := bind_hid H
    obtain ⟨t_7, qt_7, H⟩ := H
    go_wp2_with fail
    go_at_call 64
    refine (Go.Proofs.Ytpbbechgpgnpbaa.GsL7Hue.C (b)  _    qt_7).mono ?_
    rintro e_t_7 wt_7 ⟨rfl, bt_7⟩
    have HBwt_7 := Lib.hid (Below.step HBwt_3.out bt_7)
    clear bt_7
    cases t_7 with
    | false =>
      replace H := let_hid H
      obtain ⟨t_8, ht_8, H⟩ := H
      obtain rfl : t_8 = true := ht_8.symm
      replace H := app_hid H
      replace H := ite_t H
      cases ret_hid H
      go_wp2_with fail
      go_ret2
      exact ⟨rfl, HBwt_7.out⟩
    | true =>
      replace H := let_hid H
      obtain ⟨t_8, ht_8, H⟩ := H
      obtain rfl : t_8 = false := ht_8.symm
      replace H := app_hid H
      replace H := ite_f H
      replace H := bind_hid H
      obtain ⟨t_14, qt_14, H⟩ := H
      go_wp2_with fail
      go_at_call 65
      refine (Go.Proofs.Ytpbbechgpgnpbaa.GsL7Far.C (a) (b)  _    qt_14).mono ?_
      rintro e_t_14 wt_14 ⟨rfl, bt_14⟩
      have HBwt_14 := Lib.hid (Below.step HBwt_7.out bt_14)
      clear bt_14
      cases ret_hid H
      go_wp2_with fail
      go_ret2
      exact ⟨rfl, HBwt_14.out⟩
end Go.Proofs.Ytpbbechgpgnpbaa.GsHueDistance

/- Chapter 7: hues and shades: the plain functions of the program and of the reference agree, and the laws answer true. (Q7Hue) No condition but those of each theorem. -/
namespace Go.Proofs.Ytpbbechgpgnpbaa.Q7Hue
set_option linter.unusedVariables false
set_option linter.unusedSimpArgs false
open Go.RowKit
open Go.Proofs.Ytpbbechgpgnpbaa.GoP Go.Proofs.Ytpbbechgpgnpbaa.PlainStamp Go.Proofs.Ytpbbechgpgnpbaa.QBase Go.Proofs.Ytpbbechgpgnpbaa.QLoop

def far (a b : Int) : Int := min (max (a - b) (b - a)) (360 - max (a - b) (b - a))
theorem isHue_eq (h : Int) : GiIsHue.P h = some (inB h 0 359) := by simp only [GiIsHue.P, within_eq, Option.bind_some]
theorem l7Hue_eq (h : Int) : GsL7Hue.P h = some (inB h 0 359) := by simp only [GsL7Hue.P, l1In_eq, Option.bind_some]
theorem most_eq (a b : Int) : GsL1Most.P a b = some (max a b) := by
  simp only [GsL1Most.P, letK, iteK_if]
  by_cases h : b < a
  · rw [if_pos (by simpa using h)]; congr 1; omega
  · rw [if_neg (by simpa using h)]; congr 1; omega
theorem least_eq (a b : Int) : GsL1Least.P a b = some (min a b) := by
  simp only [GsL1Least.P, letK, iteK_if]
  by_cases h : a < b
  · rw [if_pos (by simpa using h)]; congr 1; omega
  · rw [if_neg (by simpa using h)]; congr 1; omega
theorem circle_eq {n : Int} (h1 : -360 ≤ n) (h2 : n ≤ 719) : GiOnCircle.P n = some ((n + 360) % 360) := by
  simp only [GiOnCircle.P, letK]
  rw [wrap_in (by omega) (by omega), Int.tmod_eq_emod_of_nonneg (by omega)]
theorem up_eq {a b : Int} (ha : 0 ≤ a ∧ a ≤ 359) (hb : 0 ≤ b ∧ b ≤ 359) : GiUpwards.P a b = some ((b - a + 360) % 360) := by
  simp only [GiUpwards.P, letK]
  rw [wrap_in (by omega) (by omega), circle_eq (by omega) (by omega)]; rfl
theorem dist_eq {a b : Int} (ha : 0 ≤ a ∧ a ≤ 359) (hb : 0 ≤ b ∧ b ≤ 359) : GiLoHueDistance.P a b = some (far a b) := by
  simp only [GiLoHueDistance.P, up_eq ha hb, up_eq hb ha, Option.bind_some, letK, far]
  congr 1; omega
theorem l7Far_eq {a b : Int} (ha : 0 ≤ a ∧ a ≤ 359) (hb : 0 ≤ b ∧ b ≤ 359) : GsL7Far.P a b = some (far a b) := by
  simp only [GsL7Far.P, most_eq, least_eq, Option.bind_some, letK]
  rw [wrap_in (x := a - b) (by omega) (by omega), wrap_in (x := b - a) (by omega) (by omega), wrap_in (by omega) (by omega)]; rfl
def hueRes (a b : Int) : Int × Bool := if (inB a 0 359 && inB b 0 359) = true then (far a b, true) else (0, false)
theorem hue_impl (a b : Int) : GiHueDistance.P a b = some (hueRes a b) := by
  simp only [GiHueDistance.P, isHue_eq, Option.bind_some, letK, joinK, appK, iteK_if, hueRes]
  cases ha : inB a 0 359 with
  | false => simp
  | true =>
    cases hb : inB b 0 359 with
    | false => simp
    | true => simp [dist_eq (inB_of ha) (inB_of hb)]
theorem hue_spec (a b : Int) : GsHueDistance.P a b = some (hueRes a b) := by
  simp only [GsHueDistance.P, l7Hue_eq, Option.bind_some, letK, joinK, appK, iteK_if, hueRes]
  cases ha : inB a 0 359 with
  | false => simp
  | true =>
    cases hb : inB b 0 359 with
    | false => simp
    | true => simp [l7Far_eq (inB_of ha) (inB_of hb)]
end Go.Proofs.Ytpbbechgpgnpbaa.Q7Hue

/- Words: the tests of a word of the program and of the reference as plain functions. (QWord) No condition but those of each theorem. -/
namespace Go.Proofs.Ytpbbechgpgnpbaa.QWord
set_option linter.unusedVariables false
set_option linter.unusedSimpArgs false
open Go.RowKit
open Go.Proofs.Ytpbbechgpgnpbaa.GoP Go.Proofs.Ytpbbechgpgnpbaa.PlainStamp Go.Proofs.Ytpbbechgpgnpbaa.QBase Go.Proofs.Ytpbbechgpgnpbaa.QLoop

def small (b : UInt8) : Bool := decide (97 ≤ b.toNat ∧ b.toNat ≤ 122)
def wordB (s : ByteArray) : Bool := inB (s.size : Int) 1 10 && s.toList.all small
theorem size_list (s : ByteArray) : s.toList.length = s.size := by rw [Lib.toList_data]; rfl
theorem isLetter_eq (b : UInt8) : GiIsLetter.P (b.toNat : Int) = some (small b) := by
  simp only [GiIsLetter.P, letK, joinK, appK, iteK_if]
  unfold small
  by_cases h1 : 97 ≤ b.toNat
  · by_cases h2 : b.toNat ≤ 122
    · simp [h1, h2, show (97 : Int) ≤ b.toNat by omega, show (b.toNat : Int) ≤ 122 by omega]
    · simp [h1, h2, show (97 : Int) ≤ b.toNat by omega, show ¬ (b.toNat : Int) ≤ 122 by omega]
  · simp [h1, show ¬ (97 : Int) ≤ b.toNat by omega]
theorem isWord_eq (s : ByteArray) : GiIsWord.P s = some (wordB s) := by
  cases hb : inB (s.size : Int) 1 10 with
  | false => simp only [GiIsWord.P, within_eq, hb, Option.bind_some, letK, iteK_if, wordB]; rfl
  | true =>
    have h := inB_of hb
    simp only [GiIsWord.P, within_eq, hb, Option.bind_some, letK, iteK_if]
    rw [if_neg (by simp), guardK_pos (by omega)]
    refine cnt_is _ (fun k _ => (s.toList.take k).all small = true) ?_ ?_ () rfl
    · intro k u nx hk hI hn
      obtain ⟨y, hy, hi⟩ := at_lt (l := s.toList) (k := k) (by rw [size_list]; exact hk)
      simp only [GiIsWord.l0, hi, Option.bind_some, letK, joinK, appK, iteK_if, isLetter_eq]
      cases hs : small y with
      | false =>
        have : wordB s = false := by unfold wordB; rw [not_all hy hs, Bool.and_false]
        simp [this]
      | true => exact hn () (by rw [all_next hy, hI, hs]; rfl)
    · intro u hI
      rw [List.take_of_length_le (by rw [size_list]; exact Nat.le_refl _)] at hI
      simp [GiIsWord.e0, wordB, hb, hI]
theorem l2Word_eq (s : ByteArray) (hz : s.size ≤ 9223372036854775807) : GsL2Word.P s = some (wordB s) := by
  simp only [GsL2Word.P]
  rw [guardK_pos hz]
  refine cnt_is _ (fun k _ => (s.toList.take k).all small = true) ?_ ?_ () rfl
  · intro k u nx hk hI hn
    obtain ⟨y, hy, hi⟩ := at_lt (l := s.toList) (k := k) (by rw [size_list]; exact hk)
    simp only [GsL2Word.l0, hi, Option.bind_some, letK, joinK, appK, iteK_if]
    by_cases h1 : (y.toNat : Int) < 97
    · have : wordB s = false := by unfold wordB; rw [not_all hy (by unfold small; simp; omega), Bool.and_false]
      simp [h1, this]
    · by_cases h2 : (122 : Int) < (y.toNat : Int)
      · have : wordB s = false := by unfold wordB; rw [not_all hy (by unfold small; simp; omega), Bool.and_false]
        simp [h1, h2, this]
      · simp [h1, h2]
        exact hn () (by rw [all_next hy, hI]; unfold small; simp; omega)
  · intro u hI
    rw [List.take_of_length_le (by rw [size_list]; exact Nat.le_refl _)] at hI
    simp [GsL2Word.e0, wordB, l1In_eq, hI]
theorem word_len {s : ByteArray} (h : wordB s = true) : 1 ≤ s.size ∧ s.size ≤ 10 := by
  unfold wordB at h
  simp only [Bool.and_eq_true] at h
  have := inB_of h.1; omega
end Go.Proofs.Ytpbbechgpgnpbaa.QWord

/- Chapter 7: hues and shades: the plain functions of the program and of the reference agree, and the laws answer true. (Q7Shade) No condition but those of each theorem. -/
namespace Go.Proofs.Ytpbbechgpgnpbaa.Q7Shade
set_option linter.unusedVariables false
set_option linter.unusedSimpArgs false
open Go.RowKit
open Go.Proofs.Ytpbbechgpgnpbaa.GoP Go.Proofs.Ytpbbechgpgnpbaa.PlainStamp Go.Proofs.Ytpbbechgpgnpbaa.QBase Go.Proofs.Ytpbbechgpgnpbaa.Q7Hue Go.Proofs.Ytpbbechgpgnpbaa.QWord Go.Proofs.Ytpbbechgpgnpbaa.QOrd Go.Proofs.Ytpbbechgpgnpbaa.QLoop Go.Proofs.Ytpbbechgpgnpbaa.PShade

theorem isLight_eq (h : Int) : GiIsLightness.P h = some (inB h 0 100) := by simp only [GiIsLightness.P, within_eq, Option.bind_some]
def okSh (x : Shade) : Bool := wordB x.name && inB x.hue 0 359 && inB x.width 0 179 && inB x.dark 0 100 && inB x.light 0 100 && decide (x.dark ≤ x.light)
theorem fits_name {x : Shade} (h : x.fits) : x.name.size ≤ 9223372036854775807 := h.1
theorem isShade_eq (x : Shade) : GiIsShade.P x = some (okSh x) := by
  obtain ⟨a, b, c, d, e⟩ := x
  simp only [GiIsShade.P, unShade, isWord_eq, isHue_eq, isLight_eq, within_eq, Option.bind_some, letK, joinK, appK, iteK_if, okSh]
  cases wordB a <;> cases inB b 0 359 <;> cases inB c 0 179 <;> cases inB d 0 100 <;> cases inB e 0 100 <;> simp
theorem l7One_eq (x : Shade) (h : x.fits) : GsL7One.P x = some (okSh x) := by
  have hz := fits_name h
  obtain ⟨a, b, c, d, e⟩ := x
  have hx : (inB e 0 100 && inB d 0 e) = (inB d 0 100 && inB e 0 100 && decide (d ≤ e)) := by unfold inB; rw [Bool.eq_iff_iff]; simp; omega
  simp only [GsL7One.P, unShade, l2Word_eq a hz, l7Hue_eq, l1In_eq, Option.bind_some, letK, joinK, appK, iteK_if, okSh]
  have hy : (wordB a && inB b 0 359 && inB c 0 179 && inB d 0 100 && inB e 0 100 && decide (d ≤ e)) = (wordB a && inB b 0 359 && inB c 0 179 && (inB e 0 100 && inB d 0 e)) := by rw [hx]; simp [Bool.and_assoc]
  rw [hy]
  cases wordB a <;> cases inB b 0 359 <;> cases inB c 0 179 <;> cases inB e 0 100 <;> simp
theorem okSh_of {x : Shade} (h : okSh x = true) : (0 ≤ x.hue ∧ x.hue ≤ 359) ∧ (0 ≤ x.width ∧ x.width ≤ 179) ∧ (0 ≤ x.dark ∧ x.dark ≤ 100) ∧ (0 ≤ x.light ∧ x.light ≤ 100) ∧ x.dark ≤ x.light ∧ wordB x.name = true := by
  unfold okSh at h
  simp only [Bool.and_eq_true, decide_eq_true_eq] at h
  exact ⟨inB_of h.1.1.1.1.2, inB_of h.1.1.1.2, inB_of h.1.1.2, inB_of h.1.2, h.2, h.1.1.1.1.1⟩
end Go.Proofs.Ytpbbechgpgnpbaa.Q7Shade

/- Chapter 7: hues and shades: the plain functions of the program and of the reference agree, and the laws answer true. (Q7Meet) No condition but those of each theorem. -/
namespace Go.Proofs.Ytpbbechgpgnpbaa.Q7Meet
set_option linter.unusedVariables false
set_option linter.unusedSimpArgs false
open Go.RowKit
open Go.Proofs.Ytpbbechgpgnpbaa.GoP Go.Proofs.Ytpbbechgpgnpbaa.PlainStamp Go.Proofs.Ytpbbechgpgnpbaa.QBase Go.Proofs.Ytpbbechgpgnpbaa.Q7Shade Go.Proofs.Ytpbbechgpgnpbaa.Q7Hue Go.Proofs.Ytpbbechgpgnpbaa.QLoop Go.Proofs.Ytpbbechgpgnpbaa.PShade

def meetB (x y : Shade) : Bool := decide (far x.hue y.hue ≤ x.width + y.width) && decide (x.dark ≤ y.light) && decide (y.dark ≤ x.light)
theorem overlaps_eq {x y : Shade} (hx : okSh x = true) (hy : okSh y = true) : GiOverlaps.P x y = some (meetB x y) := by
  have h1 := okSh_of hx
  have h2 := okSh_of hy
  obtain ⟨a, b, c, d, e⟩ := x
  obtain ⟨a2, b2, c2, d2, e2⟩ := y
  dsimp only at h1 h2
  simp only [GiOverlaps.P, unShade, dist_eq h1.1 h2.1, Option.bind_some, letK, joinK, appK, iteK_if, meetB]
  rw [wrap_in (by omega) (by omega)]
  have : decide (max d d2 ≤ min e e2) = (decide (d ≤ e2) && decide (d2 ≤ e)) := by rw [Bool.eq_iff_iff]; simp; omega
  rw [this]
  by_cases h : far b b2 ≤ c + c2 <;> simp [h]
theorem l7Meet_eq {x y : Shade} (hx : okSh x = true) (hy : okSh y = true) : GsL7Meet.P x y = some (meetB x y) := by
  have h1 := okSh_of hx
  have h2 := okSh_of hy
  obtain ⟨a, b, c, d, e⟩ := x
  obtain ⟨a2, b2, c2, d2, e2⟩ := y
  dsimp only at h1 h2
  simp only [GsL7Meet.P, unShade, l7Far_eq h1.1 h2.1, Option.bind_some, letK, joinK, appK, iteK_if, meetB]
  rw [wrap_in (by omega) (by omega)]
  by_cases h : far b b2 ≤ c + c2 <;> by_cases h3 : d ≤ e2 <;> simp [h, h3]
end Go.Proofs.Ytpbbechgpgnpbaa.Q7Meet

/- Chapter 7: hues and shades: the plain functions of the program and of the reference agree, and the laws answer true. (Q7List) No condition but those of each theorem. -/
namespace Go.Proofs.Ytpbbechgpgnpbaa.Q7List
set_option linter.unusedVariables false
set_option linter.unusedSimpArgs false
open Go.RowKit
open Go.Proofs.Ytpbbechgpgnpbaa.GoP Go.Proofs.Ytpbbechgpgnpbaa.PlainStamp Go.Proofs.Ytpbbechgpgnpbaa.QBase Go.Proofs.Ytpbbechgpgnpbaa.Q7Shade Go.Proofs.Ytpbbechgpgnpbaa.QOrd Go.Proofs.Ytpbbechgpgnpbaa.QLoop Go.Proofs.Ytpbbechgpgnpbaa.PShade

def nameLt (r s : Shade) : Bool := bl r.name s.name
def okShs (l : List Shade) : Bool := riseL 12 okSh nameLt l
theorem areShades_eq (l : List Shade) (hl : l.length ≤ 9223372036854775807) : GiAreShades.P l = some (okShs l) := by
  simp only [GiAreShades.P, GiAreByKeyShadeStringiIsShadeiNameOfShade.P, letK, iteK_if]
  by_cases h12 : l.length ≤ 12
  · rw [if_neg (by simp; omega), rise_loop (ok := okSh) (lt := nameLt) (no := false)]
    · unfold okShs riseL; cases riseTo okSh nameLt l l.length <;> simp [h12, GiAreByKeyShadeStringiIsShadeiNameOfShade.e0]
    · intro k nx s hs
      have hi : idx l (k : Int) = some s := by rw [idx_nat, hs]
      have hk : k < l.length := (List.getElem?_eq_some_iff.1 hs).1
      simp only [GiAreByKeyShadeStringiIsShadeiNameOfShade.l0, hi, Option.bind_some, unShade, isShade_eq, GiNameOfShade.P, letK, joinK, appK, iteK_if, bl_le]
      refine ⟨fun h => by simp [h], fun h => ⟨fun h0 => by subst h0; simp [h], fun h0 r hr => ?_⟩⟩
      rw [idx_pred h0 (by omega) hr]
      have hk0 : (0 : Int) < (k : Int) := by omega
      have hk1 : ¬ k = 0 := by omega
      exact ⟨fun hlt => by (have hc : bl r.name s.name = true := hlt); simp [h, hk0, hk1, hc], fun hge => by (have hc : bl r.name s.name = false := hge); simp [h, hk0, hk1, hc]⟩
  · rw [if_pos (by simp; omega)]; unfold okShs riseL; simp [h12]
theorem l7Good_eq (l : List Shade) (hf : ∀ s ∈ l, s.fits) (hl : l.length ≤ 9223372036854775807) : GsL7Good.P l = some (okShs l) := by
  simp only [GsL7Good.P]
  rw [rise_loop (ok := okSh) (lt := nameLt) (no := false)]
  · unfold okShs riseL; cases riseTo okSh nameLt l l.length <;> simp [GsL7Good.e0, letK]; omega
  · intro k nx s hs
    have hi : idx l (k : Int) = some s := by rw [idx_nat, hs]
    have hk : k < l.length := (List.getElem?_eq_some_iff.1 hs).1
    have hm := hf s (List.mem_of_getElem? hs)
    have h1 := l7One_eq s hm
    simp only [GsL7Good.l0, hi, Option.bind_some, unShade, h1, letK, joinK, appK, iteK_if, bl_lt]
    refine ⟨fun h => by simp [h], fun h => ⟨fun h0 => by subst h0; simp [h], fun h0 r hr => ?_⟩⟩
    rw [idx_pred h0 (by omega) hr]
    have hk0 : (0 : Int) < (k : Int) := by omega
    have hk1 : ¬ k = 0 := by omega
    exact ⟨fun hlt => by (have hc : bl r.name s.name = true := hlt); simp [h, hk0, hk1, hc], fun hge => by (have hc : bl r.name s.name = false := hge); simp [h, hk0, hk1, hc]⟩
theorem shs_mem {l : List Shade} (h : okShs l = true) {x : Shade} (hx : x ∈ l) : okSh x = true := riseL_mem h hx
end Go.Proofs.Ytpbbechgpgnpbaa.Q7List

