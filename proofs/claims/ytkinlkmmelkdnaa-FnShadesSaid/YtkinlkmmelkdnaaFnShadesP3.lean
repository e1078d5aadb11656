/- The texts on which the proof of FnShades stands, one behind the other (3 of 6). No condition of their own. -/
import Derived.Test.YtkinlkmmelkdnaaChecked
import Derived.Test.YtkinlkmmelkdnaaFnShadesP1
import Derived.Test.YtkinlkmmelkdnaaFnShadesP2
import Derived.WalkKit
import Derived.WalkSpells
import Derived.WalkLawsBesides
import Derived.BigQuiet
import Derived.OwnWalk
import Derived.Deep.LoopGhost
import Derived.Deep.QuietTactic
import Derived.IntWalk
import Derived.Lib.QuietBelow
import Derived.Deep.RegionHeld3
/- loop.example/g01062/impl.BestShade as a plain function, and the contract of the program's: where the plain one has an answer, the program has it. Conditions: slices read as lists. -/
namespace Go.Proofs.Ytkinlkmmelkdnaa.GiBestShade
set_option linter.unusedVariables false
set_option linter.unusedSimpArgs false
open Go.RowKit
open Go.Proofs.Ytkinlkmmelkdnaa.Rowed Go.Proofs.Ytkinlkmmelkdnaa.Turn Go.Proofs.Ytkinlkmmelkdnaa.Aid Go.Proofs.Ytkinlkmmelkdnaa.GoP Go.Proofs.Ytkinlkmmelkdnaa.GoM

def P (fuel : Nat) (list : (List Go.Proofs.Ytkinlkmmelkdnaa.PShade.Shade)) (hue : Int) (light : Int) : Option (ByteArray × Bool) :=
  Option.bind (Go.Proofs.Ytkinlkmmelkdnaa.GiCanLook.P list hue light) fun (t_7 : Bool) =>
  letK (!t_7) fun (t_8 : Bool) =>
  iteK t_8
  (some ((⟨#[]⟩ : ByteArray), false))
  (Option.bind (Go.Proofs.Ytkinlkmmelkdnaa.GxSlicesCloneLoopExampleG01062ImplShadeLoopExampleG01062ImplShade.P list) fun (t_12 : (List Go.Proofs.Ytkinlkmmelkdnaa.PShade.Shade)) =>
  Option.bind (Go.Proofs.Ytkinlkmmelkdnaa.GxSlicesDeleteFuncLoopExampleG01062ImplShadeLoopExampleG01062ImplShadeiBestShade1.P fuel t_12 hue light) fun (t_14 : (List Go.Proofs.Ytkinlkmmelkdnaa.PShade.Shade)) =>
  letK ((t_14.length : Int) == 0) fun (t_18 : Bool) =>
  iteK t_18
  (some ((⟨#[]⟩ : ByteArray), false))
  (Option.bind (Go.Proofs.Ytkinlkmmelkdnaa.GxSlicesMinFuncLoopExampleG01062ImplShadeLoopExampleG01062ImplShadeiBestShade2.P fuel t_14 hue) fun (t_23 : Go.Proofs.Ytkinlkmmelkdnaa.PShade.Shade) =>
  unShade t_23 fun (t_23_name : ByteArray) (t_23_hue : Int) (t_23_width : Int) (t_23_dark : Int) (t_23_light : Int) =>
  some (t_23_name, true)))

set_option maxRecDepth 100000 in
set_option maxHeartbeats 2000000 in
theorem C (fuel : Nat) (list : (List Go.Proofs.Ytkinlkmmelkdnaa.PShade.Shade)) (hue : Int) (light : Int) (A0 : Option Addr) (c0 : Nat)  (w : World) (M0 : Hid (Cells w 5 A0 list.length (Go.Proofs.Ytkinlkmmelkdnaa.PShade.flat list))) (N0 : Hid (list.length ≤ 9223372036854775807)) (Q0 : Hid (Room A0 list.length c0))  {r0 : ByteArray} {r1 : Bool} (H : Hid (P fuel list hue light = some (r0, r1))) :
    Calls Try.prog 53 #[.slice A0 list.length c0, .int .i64 hue, .int .i64 light] w (Gives (.tuple #[.string r0, .bool r1]) w) := by
  have HB := Lib.hid (Below.refl w.heap.size w)
  unfold P at H
  have N0o := N0.out
  go_enter Try.func53, Try.ntmps53
  obtain ⟨w_hue_0, hw_hue_0⟩ : ∃ x, w.alloc (.cells #[.int .i64 hue] 3) = x := ⟨_, rfl⟩
  have bw_hue_0 : Below w.heap.size w w_hue_0 := by rw [← hw_hue_0]; exact (Below.refl _ _).alloc (Nat.le_refl _) _
  have HBw_hue_0 := Lib.hid (Below.step HB.out bw_hue_0)
  clear bw_hue_0
  have khue_0_0 : w_hue_0.cell? ⟨w.heap.size, 0, none⟩ = some (.int .i64 hue) := by rw [← hw_hue_0]; exact box_new _ _ _ 0 _ rfl
  obtain ⟨w_light_1, hw_light_1⟩ : ∃ x, w_hue_0.alloc (.cells #[.int .i64 light] 3) = x := ⟨_, rfl⟩
  have bw_light_1 : Below w_hue_0.heap.size w_hue_0 w_light_1 := by rw [← hw_light_1]; exact (Below.refl _ _).alloc (Nat.le_refl _) _
  have HBw_light_1 := Lib.hid (Below.step HBw_hue_0.out bw_light_1)
  have khue_0_0__460 := cell_below bw_light_1 khue_0_0
  clear bw_light_1
  have klight_1_0 : w_light_1.cell? ⟨w_hue_0.heap.size, 0, none⟩ = some (.int .i64 light) := by rw [← hw_light_1]; exact box_new _ _ _ 0 _ rfl
  replace H := bind_hid H
  obtain ⟨t_7, qt_7, H⟩ := H
  go_wp2_with fail
  clear khue_0_0
  go_at_call 103
  refine (Go.Proofs.Ytkinlkmmelkdnaa.GiCanLook.C (list) (hue) (light) A0 c0 _   (Lib.hid (Cells.below M0.out HBw_light_1.out)) N0 qt_7).mono ?_
  rintro e_t_7 wt_7 ⟨rfl, bt_7⟩
  have HBwt_7 := Lib.hid (Below.step HBw_light_1.out bt_7)
  replace khue_0_0__460 := cell_below bt_7 khue_0_0__460
  replace klight_1_0 := cell_below bt_7 klight_1_0
  clear bt_7
  cases t_7 with
  | false =>
    replace H := let_hid H
    obtain ⟨t_8, ht_8, H⟩ := H
    obtain rfl : t_8 = true := ht_8.symm
    replace H := ite_t H
    cases ret_hid H
    go_wp2_with fail
    go_ret2
    exact ⟨rfl, HBwt_7.out⟩
  | true =>
    replace H := let_hid H
    obtain ⟨t_8, ht_8, H⟩ := H
    obtain rfl : t_8 = false := ht_8.symm
    replace H := ite_f H
    replace H := bind_hid H
    obtain ⟨t_12, qt_12, H⟩ := H
    go_wp2_with fail
    go_at_call 105
    refine (Go.Proofs.Ytkinlkmmelkdnaa.GxSlicesCloneLoopExampleG01062ImplShadeLoopExampleG01062ImplShade.C (list) A0 c0 _   (Lib.hid (Cells.below M0.out HBwt_7.out)) N0 Q0 qt_12).mono ?_
    rintro e_t_12 wt_12 ⟨At_12, ct_12, rfl, ot_12, bt_12⟩
    have Dt_12_hue_0 := Lib.hid (apart_callbox ot_12 khue_0_0__460)
    have Dt_12_light_1 := Lib.hid (apart_callbox ot_12 klight_1_0)
    have Ot_12 := Lib.hid (own_lower ot_12 HBwt_7.out.size)
    clear ot_12
    have HBwt_12 := Lib.hid (Below.step HBwt_7.out bt_12)
    replace khue_0_0__460 := cell_below bt_12 khue_0_0__460
    replace klight_1_0 := cell_below bt_12 klight_1_0
    clear bt_12
    replace H := bind_hid H
    obtain ⟨t_14, qt_14, H⟩ := H
    go_wp2_with fail
    go_at_call 104
    refine (Go.Proofs.Ytkinlkmmelkdnaa.GxSlicesDeleteFuncLoopExampleG01062ImplShadeLoopExampleG01062ImplShadeiBestShade1.C fuel (t_12) (hue) (light) At_12 ct_12 (w.heap.size) (w_hue_0.heap.size) w.heap.size _   Ot_12 (Lib.hid (own_max Ot_12.out)) (Lib.hid khue_0_0__460) (Lib.hid klight_1_0) (Lib.hid HBwt_12.out.size) (Lib.hid Dt_12_hue_0.out) (Lib.hid Dt_12_light_1.out) qt_14).mono ?_
    rintro e_t_14 wt_14 ⟨At_14, ct_14, rfl, ot_14, gt_14, yt_14⟩
    have Pt_14 := Lib.hid ot_14
    have Gt_14 := Lib.hid gt_14
    replace yt_14 := Lib.hid yt_14
    clear ot_14 gt_14
    have HBwt_14 := Lib.hid (HBwt_12.out.grown Gt_14.out HBwt_12.out.size (fun q hq => (Ot_12.out.lt q hq).1))
    have Dt_14_hue_0 : Hid (Apart At_14 _) := Lib.hid (Go.Proofs.Ytkinlkmmelkdnaa.GoK.apart_from Dt_12_hue_0.out (fun a_ ha_ => by cases ha_; exact cell_lt khue_0_0__460) yt_14.out)
    have Dt_14_light_1 : Hid (Apart At_14 _) := Lib.hid (Go.Proofs.Ytkinlkmmelkdnaa.GoK.apart_from Dt_12_light_1.out (fun a_ ha_ => by cases ha_; exact cell_lt klight_1_0) yt_14.out)
    replace khue_0_0__460 := cell_other khue_0_0__460 Gt_14.out Dt_12_hue_0.out
    replace klight_1_0 := cell_other klight_1_0 Gt_14.out Dt_12_light_1.out
    clear Ot_12 Gt_14 yt_14
    replace H := let_hid H
    obtain ⟨t_18, ht_18, H⟩ := H
    cases t_18 with
    | false =>
      have nht_18 : ¬ (t_14.length = 0) := by have := ne_of_beq_false ht_18; omega
      replace H := ite_f H
      replace H := bind_hid H
      obtain ⟨t_23, qt_23, H⟩ := H
      obtain ⟨t_23_name, t_23_hue, t_23_width, t_23_dark, t_23_light⟩ := t_23
      replace H := unShade_hid H
      go_wp2_with fail
      go_at_call 108
      refine (Go.Proofs.Ytkinlkmmelkdnaa.GxSlicesMinFuncLoopExampleG01062ImplShadeLoopExampleG01062ImplShadeiBestShade2.C fuel (t_14) (hue) At_14 ct_14 (w.heap.size) _   (Lib.hid (own_cells Pt_14.out)) (Lib.hid (own_max Pt_14.out)) (Lib.hid khue_0_0__460) qt_23).mono ?_
      rintro e_t_23 wt_23 ⟨rfl, bt_23⟩
      unfold Go.Proofs.Ytkinlkmmelkdnaa.PShade.Shade.val
      have HBwt_23 := Lib.hid (Below.step HBwt_14.out bt_23)
      replace khue_0_0__460 := cell_below bt_23 khue_0_0__460
      replace klight_1_0 := cell_below bt_23 klight_1_0
      replace Pt_14 := Lib.hid (own_below Pt_14.out bt_23)
      clear bt_23
      obtain ⟨w_best_24, hw_best_24⟩ : ∃ x, wt_23.alloc (.cells #[.string t_23_name, .int .i64 t_23_hue, .int .i64 t_23_width, .int .i64 t_23_dark, .int .i64 t_23_light] 74) = x := ⟨_, rfl⟩
      have bw_best_24 : Below wt_23.heap.size wt_23 w_best_24 := by rw [← hw_best_24]; exact (Below.refl _ _).alloc (Nat.le_refl _) _
      have Dbest_24_t_14 := Lib.hid (apart_fresh Pt_14.out)
      have HBw_best_24 := Lib.hid (Below.step HBwt_23.out bw_best_24)
      have khue_0_0__461 := cell_below bw_best_24 khue_0_0__460
      have klight_1_0__462 := cell_below bw_best_24 klight_1_0
      replace Pt_14 := Lib.hid (own_below Pt_14.out bw_best_24)
      clear bw_best_24
      have kbest_24_0 : w_best_24.cell? ⟨wt_23.heap.size, 0, none⟩ = some (.string t_23_name) := by rw [← hw_best_24]; exact box_new _ _ _ 0 _ rfl
      have kbest_24_1 : w_best_24.cell? ⟨wt_23.heap.size, 1, none⟩ = some (.int .i64 t_23_hue) := by rw [← hw_best_24]; exact box_new _ _ _ 1 _ rfl
      have kbest_24_2 : w_best_24.cell? ⟨wt_23.heap.size, 2, none⟩ = some (.int .i64 t_23_width) := by rw [← hw_best_24]; exact box_new _ _ _ 2 _ rfl
      have kbest_24_3 : w_best_24.cell? ⟨wt_23.heap.size, 3, none⟩ = some (.int .i64 t_23_dark) := by rw [← hw_best_24]; exact box_new _ _ _ 3 _ rfl
      have kbest_24_4 : w_best_24.cell? ⟨wt_23.heap.size, 4, none⟩ = some (.int .i64 t_23_light) := by rw [← hw_best_24]; exact box_new _ _ _ 4 _ rfl
      cases ret_hid H
      go_wp2_with fail
      go_ret2
      exact ⟨rfl, HBw_best_24.out⟩
    | true =>
      have Hht_18 : Hid (t_14.length = 0) := Lib.hid (by have := eq_of_beq ht_18; omega)
      have nht_18 : (t_14.length == 0) = true := beq_iff_eq.2 Hht_18.out
      replace H := ite_t H
      cases ret_hid H
      go_wp2_with fail
      go_ret2
      exact ⟨rfl, HBwt_14.out⟩
end Go.Proofs.Ytkinlkmmelkdnaa.GiBestShade

/- loop.example/g01062/spec.l1In as a plain function, and the contract of the program's: where the plain one has an answer, the program has it. Conditions: slices read as lists. -/
namespace Go.Proofs.Ytkinlkmmelkdnaa.GsL1In
set_option linter.unusedVariables false
set_option linter.unusedSimpArgs false
open Go.RowKit
open Go.Proofs.Ytkinlkmmelkdnaa.Rowed Go.Proofs.Ytkinlkmmelkdnaa.Turn Go.Proofs.Ytkinlkmmelkdnaa.Aid Go.Proofs.Ytkinlkmmelkdnaa.GoP Go.Proofs.Ytkinlkmmelkdnaa.GoM

def P (x : Int) (a : Int) (b : Int) : Option (Bool) :=
  letK (decide (a ≤ x)) fun (t_3 : Bool) =>
  joinK (fun (t_8 : Bool) =>
  some t_8) fun jt_8 => iteK t_3 (letK (decide (x ≤ b)) fun (t_7 : Bool) =>
  appK jt_8 t_7) (appK jt_8 false)

set_option maxRecDepth 100000 in
set_option maxHeartbeats 2000000 in
theorem C (x : Int) (a : Int) (b : Int)   (w : World)   {r : Bool} (H : Hid (P x a b = some r)) :
    Calls Try.prog 88 #[.int .i64 x, .int .i64 a, .int .i64 b] w (Gives (.bool r) w) := by
  have HB := Lib.hid (Below.refl w.heap.size w)
  unfold P at H
  go_enter Try.func88, Try.ntmps88
  replace H := let_hid H
  obtain ⟨t_3, ht_3, H⟩ := H
  replace H := join_hid H
  cases t_3 with
  | false =>
    replace H := ite_f H
    replace H := app_hid H
    obtain rfl := ret_hid H
    go_wp2_with fail
    go_ret
    exact ⟨rfl, HB.out⟩
  | true =>
    replace H := ite_t H
    replace H := let_hid H
    obtain ⟨t_7, ht_7, H⟩ := H
    replace H := app_hid H
    obtain rfl := ret_hid H
    go_wp2_with fail
    go_ret
    exact ⟨rfl, HB.out⟩

set_option maxRecDepth 100000 in
set_option maxHeartbeats 2000000 in
theorem C0 (x : Int) (a : Int) (b : Int)   (w : World)   {r : Bool} (H : Hid (P x a b = some r)) :
    Calls Try.prog 88 #[.int .i64 x, .int .i64 a, .int .i64 b] w (fun e w'' => e = .returned (.bool r) ∧ w'' = w) := by
  have HB := Lib.hid (Below.refl w.heap.size w)
  unfold P at H
  go_enter Try.func88, Try.ntmps88
  replace H := let_hid H
  obtain ⟨t_3, ht_3, H⟩ := H
  replace H := join_hid H
  cases t_3 with
  | false =>
    replace H := ite_f H
    replace H := app_hid H
    obtain rfl := ret_hid H
    go_wp2_with fail
    go_ret
    exact ⟨rfl, rfl⟩
  | true =>
    replace H := ite_t H
    replace H := let_hid H
    obtain ⟨t_7, ht_7, H⟩ := H
    replace H := app_hid H
    obtain rfl := ret_hid H
    go_wp2_with fail
    go_ret
    exact ⟨rfl, rfl⟩
end Go.Proofs.Ytkinlkmmelkdnaa.GsL1In

/- loop.example/g01062/spec.l2Word as a plain function, and the contract of the program's: where the plain one has an answer, the program has it. Conditions: slices read as lists. -/
namespace Go.Proofs.Ytkinlkmmelkdnaa.GsL2Word
set_option linter.unusedVariables false
set_option linter.unusedSimpArgs false
open Go.RowKit
open Go.Proofs.Ytkinlkmmelkdnaa.Rowed Go.Proofs.Ytkinlkmmelkdnaa.Turn Go.Proofs.Ytkinlkmmelkdnaa.Aid Go.Proofs.Ytkinlkmmelkdnaa.GoP Go.Proofs.Ytkinlkmmelkdnaa.GoM

def l0 (s_0 : ByteArray) (k0 : Nat) (s : Unit) (nx0 bk0 : Unit → Option (Bool)) : Option (Bool) :=
  
  Option.bind (idx s_0.toList (k0 : Int)) fun (yt_8 : UInt8) =>
  letK ((yt_8.toNat : Int)) fun (t_8 : Int) =>
  letK (decide (t_8 < 97)) fun (t_9 : Bool) =>
  joinK (fun (t_15 : Bool) =>
  iteK t_15
  (some false)
  (appK nx0 ())) fun jt_15 => iteK t_9 (appK jt_15 true) (Option.bind (idx s_0.toList (k0 : Int)) fun (yt_13 : UInt8) =>
  letK ((yt_13.toNat : Int)) fun (t_13 : Int) =>
  letK (decide (122 < t_13)) fun (t_14 : Bool) =>
  appK jt_15 t_14)

def e0 (s_0 : ByteArray) (s : Unit) : Option (Bool) :=
  
  Option.bind (Go.Proofs.Ytkinlkmmelkdnaa.GsL1In.P (s_0.size : Int) 1 10) fun (t_22 : Bool) =>
  some t_22

def P (s_0 : ByteArray) : Option (Bool) :=
  guardK (s_0.size ≤ 9223372036854775807) <|
  cntK (l0 s_0) (s_0.size) 0 () (e0 s_0)

set_option maxRecDepth 100000 in
set_option maxHeartbeats 2000000 in
theorem C (s_0 : ByteArray)   (w : World)   {r : Bool} (H : Hid (P s_0 = some r)) :
    Calls Try.prog 142 #[.string s_0] w (Gives (.bool r) w) := by
  have HB := Lib.hid (Below.refl w.heap.size w)
  unfold P at H
  go_enter Try.func142, Try.ntmps142
  replace H := guard_hid H
  obtain ⟨hg0, H⟩ := H
  go_wp2_with fail
  go_loopg [3] (s_0.size) (fun m_ v3_ wr => ∃ (k0 : Nat) , k0 + m_ = s_0.size ∧ v3_ = .int .i64 (k0 : Int) ∧ Hid (cntK (l0 s_0) m_ k0 () (e0 s_0) = some r) ∧ Hid (Below w.heap.size w wr))
  case atStart => exact ⟨0, by omega, rfl, H, HB⟩
  case round =>
    obtain ⟨k0, hkm0, rfl, H, HBwr0⟩ := hrel
    rename World => wr0
    cases gk with
    | zero =>
      obtain rfl : k0 = s_0.size := by omega
      have hc0 : decide (((s_0.size : Nat) : Int) < ((s_0.size : Nat) : Int)) = false := by simp
      replace H := cnt_zero H
      unfold e0 at H
      replace H := bind_hid H
      obtain ⟨t_22, qt_22, H⟩ := H
      go_wp2_with fail
      go_at_call 88
      refine (Go.Proofs.Ytkinlkmmelkdnaa.GsL1In.C ((s_0.size : Int)) (1) (10)  _    qt_22).mono ?_
      rintro e_t_22 wt_22 ⟨rfl, bt_22⟩
      have HBwt_22 := Lib.hid (Below.step HBwr0.out bt_22)
      clear bt_22
      obtain rfl := ret_hid H
      go_wp2_with fail
      go_ret
      exact ⟨rfl, HBwt_22.out⟩
    | succ m0 =>
      have hlt0 : k0 < s_0.size := by omega
      have hc0 : decide ((k0 : Int) < ((s_0.size : Nat) : Int)) = true := by simp; omega
      replace H := cnt_succ H
      unfold l0 at H
      replace H := idx_hid H
      obtain ⟨nt_8, yt_8, et_8, lt_8, gt_8, H⟩ := H
      obtain rfl : k0 = nt_8 := by omega
      clear et_8
      have rt_8 := byte_rule lt_8 gt_8.out
      have b0t_8 : (0 : Int) ≤ (k0 : Int) := by omega
      have b1t_8 : (k0 : Int) < (s_0.size : Int) := by have := size_list s_0; omega
      have b2t_8 : ((k0 : Int)).toNat = k0 := by omega
      have b3t_8 : k0 < s_0.size := by have := size_list s_0; omega
      replace H := let_hid H
      obtain ⟨t_8, ht_8, H⟩ := H
      replace H := let_hid H
      obtain ⟨t_9, ht_9, H⟩ := H
      replace H := join_hid H
      cases t_9 with
      | false =>
        replace H := ite_f H
        replace H := idx_hid H
        obtain ⟨nt_13, yt_13, et_13, lt_13, gt_13, H⟩ := H
        obtain rfl : k0 = nt_13 := by omega
        clear et_13
        obtain rfl := Option.some.inj (gt_8.out.symm.trans gt_13.out)
        clear gt_13 lt_13
        replace H := let_hid H
        obtain ⟨t_13, ht_13, H⟩ := H
        obtain rfl := ht_8.symm.trans ht_13
        replace H := let_hid H
        obtain ⟨t_14, ht_14, H⟩ := H
        replace H := app_hid H
        cases t_14 with
        | false =>
          replace H := ite_f H
          replace H := app_hid H
          go_wp2_with fail
          go_roundg m0
          case measure => omega
          case rel => exact ⟨k0 + 1, by omega, by go_num, H, HBwr0⟩
        | true =>
          replace H := ite_t H
          obtain rfl := ret_hid H
          go_wp2_with fail
          go_ret
          exact ⟨rfl, HBwr0.out⟩
      | true =>
        replace H := ite_t H
        replace H := app_hid H
        replace H := ite_t H
        obtain rfl := ret_hid H
        go_wp2_with fail
        go_ret
        exact ⟨rfl, HBwr0.out⟩
end Go.Proofs.Ytkinlkmmelkdnaa.GsL2Word

/- loop.example/g01062/spec.l7Hue as a plain function, and the contract of the program's: where the plain one has an answer, the program has it. Conditions: slices read as lists. -/
namespace Go.Proofs.Ytkinlkmmelkdnaa.GsL7Hue
set_option linter.unusedVariables false
set_option linter.unusedSimpArgs false
open Go.RowKit
open Go.Proofs.Ytkinlkmmelkdnaa.Rowed Go.Proofs.Ytkinlkmmelkdnaa.Turn Go.Proofs.Ytkinlkmmelkdnaa.Aid Go.Proofs.Ytkinlkmmelkdnaa.GoP Go.Proofs.Ytkinlkmmelkdnaa.GoM

def P (n_0 : Int) : Option (Bool) :=
  Option.bind (Go.Proofs.Ytkinlkmmelkdnaa.GsL1In.P n_0 0 359) fun (t_2 : Bool) =>
  some t_2

set_option maxRecDepth 100000 in
set_option maxHeartbeats 2000000 in
theorem C (n_0 : Int)   (w : World)   {r : Bool} (H : Hid (P n_0 = some r)) :
    Calls Try.prog 114 #[.int .i64 n_0] w (Gives (.bool r) w) := by
  have HB := Lib.hid (Below.refl w.heap.size w)
  unfold P at H
  go_enter Try.func114, Try.ntmps114
  replace H := bind_hid H
  obtain ⟨t_2, qt_2, H⟩ := H
  go_wp2_with fail
  go_at_call 88
  refine (Go.Proofs.Ytkinlkmmelkdnaa.GsL1In.C (n_0) (0) (359)  _    qt_2).mono ?_
  rintro e_t_2 wt_2 ⟨rfl, bt_2⟩
  have HBwt_2 := Lib.hid (Below.step HB.out bt_2)
  clear bt_2
  obtain rfl := ret_hid H
  go_wp2_with fail
  go_ret
  exact ⟨rfl, HBwt_2.out⟩
end Go.Proofs.Ytkinlkmmelkdnaa.GsL7Hue

/- loop.example/g01062/spec.l7One as a plain function, and the contract of the program's: where the plain one has an answer, the program has it. Conditions: slices read as lists. -/
namespace Go.Proofs.Ytkinlkmmelkdnaa.GsL7One
set_option linter.unusedVariables false
set_option linter.unusedSimpArgs false
open Go.RowKit
open Go.Proofs.Ytkinlkmmelkdnaa.Rowed Go.Proofs.Ytkinlkmmelkdnaa.Turn Go.Proofs.Ytkinlkmmelkdnaa.Aid Go.Proofs.Ytkinlkmmelkdnaa.GoP Go.Proofs.Ytkinlkmmelkdnaa.GoM

def P (x : Go.Proofs.Ytkinlkmmelkdnaa.PShade.Shade) : Option (Bool) :=
  unShade x fun (x_name : ByteArray) (x_hue : Int) (x_width : Int) (x_dark : Int) (x_light : Int) =>
  Option.bind (Go.Proofs.Ytkinlkmmelkdnaa.GsL2Word.P x_name) fun (t_4 : Bool) =>
  joinK (fun (t_9 : Bool) =>
  joinK (fun (t_14 : Bool) =>
  joinK (fun (t_19 : Bool) =>
  joinK (fun (t_26 : Bool) =>
  some t_26) fun jt_26 => iteK t_19 (Option.bind (Go.Proofs.Ytkinlkmmelkdnaa.GsL1In.P x_dark 0 x_light) fun (t_25 : Bool) =>
  appK jt_26 t_25) (appK jt_26 false)) fun jt_19 => iteK t_14 (Option.bind (Go.Proofs.Ytkinlkmmelkdnaa.GsL1In.P x_light 0 100) fun (t_18 : Bool) =>
  appK jt_19 t_18) (appK jt_19 false)) fun jt_14 => iteK t_9 (Option.bind (Go.Proofs.Ytkinlkmmelkdnaa.GsL1In.P x_width 0 179) fun (t_13 : Bool) =>
  appK jt_14 t_13) (appK jt_14 false)) fun jt_9 => iteK t_4 (Option.bind (Go.Proofs.Ytkinlkmmelkdnaa.GsL7Hue.P x_hue) fun (t_8 : Bool) =>
  appK jt_9 t_8) (appK jt_9 false)

set_option maxRecDepth 100000 in
set_option maxHeartbeats 2000000 in
theorem C (x : Go.Proofs.Ytkinlkmmelkdnaa.PShade.Shade)   (w : World)   {r : Bool} (H : Hid (P x = some r)) :
    Calls Try.prog 123 #[x.val] w (Gives (.bool r) w) := by
  have HB := Lib.hid (Below.refl w.heap.size w)
  unfold P at H
  obtain ⟨x_name, x_hue, x_width, x_dark, x_light⟩ := x
  replace H := unShade_hid H
  unfold Go.Proofs.Ytkinlkmmelkdnaa.PShade.Shade.val
  go_enter Try.func123, Try.ntmps123
  obtain ⟨w_x_0, hw_x_0⟩ : ∃ x, w.alloc (.cells #[.string x_name, .int .i64 x_hue, .int .i64 x_width, .int .i64 x_dark, .int .i64 x_light] 74) = x := ⟨_, rfl⟩
  have bw_x_0 : Below w.heap.size w w_x_0 := by rw [← hw_x_0]; exact (Below.refl _ _).alloc (Nat.le_refl _) _
  have HBw_x_0 := Lib.hid (Below.step HB.out bw_x_0)
  clear bw_x_0
  have kx_0_0 : w_x_0.cell? ⟨w.heap.size, 0, none⟩ = some (.string x_name) := by rw [← hw_x_0]; exact box_new _ _ _ 0 _ rfl
  have kx_0_1 : w_x_0.cell? ⟨w.heap.size, 1, none⟩ = some (.int .i64 x_hue) := by rw [← hw_x_0]; exact box_new _ _ _ 1 _ rfl
  have kx_0_2 : w_x_0.cell? ⟨w.heap.size, 2, none⟩ = some (.int .i64 x_width) := by rw [← hw_x_0]; exact box_new _ _ _ 2 _ rfl
  have kx_0_3 : w_x_0.cell? ⟨w.heap.size, 3, none⟩ = some (.int .i64 x_dark) := by rw [← hw_x_0]; exact box_new _ _ _ 3 _ rfl
  have kx_0_4 : w_x_0.cell? ⟨w.heap.size, 4, none⟩ = some (.int .i64 x_light) := by rw [← hw_x_0]; exact box_new _ _ _ 4 _ rfl
  replace H := bind_hid H
  obtain ⟨t_4, qt_4, H⟩ := H
  go_wp2_with fail
  go_at_call 142
  refine (Go.Proofs.Ytkinlkmmelkdnaa.GsL2Word.C (x_name)  _    qt_4).mono ?_
  rintro e_t_4 wt_4 ⟨rfl, bt_4⟩
  have HBwt_4 := Lib.hid (Below.step HBw_x_0.out bt_4)
  replace kx_0_0 := cell_below bt_4 kx_0_0
  replace kx_0_1 := cell_below bt_4 kx_0_1
  replace kx_0_2 := cell_below bt_4 kx_0_2
  replace kx_0_3 := cell_below bt_4 kx_0_3
  replace kx_0_4 := cell_below bt_4 kx_0_4
  clear bt_4
  replace H := join_hid H
  cases t_4 with
  | false =>
    replace H := ite_f H
    replace H := app_hid H
    replace H := join_hid H
    replace H := ite_f H
    replace H := app_hid H
    replace H := join_hid H
    replace H := ite_f H
    replace H := app_hid H
    replace H := join_hid H
    replace H := ite_f H
    replace H := app_hid H
    obtain rfl := ret_hid H
    go_wp2_with fail
    go_ret
    exact ⟨rfl, HBwt_4.out⟩
  | true =>
    replace H := ite_t H
    replace H := bind_hid H
    obtain ⟨t_8, qt_8, H⟩ := H
    go_wp2_with fail
    go_at_call 114
    refine (Go.Proofs.Ytkinlkmmelkdnaa.GsL7Hue.C (x_hue)  _    qt_8).mono ?_
    rintro e_t_8 wt_8 ⟨rfl, bt_8⟩
    have HBwt_8 := Lib.hid (Below.step HBwt_4.out bt_8)
    replace kx_0_0 := cell_below bt_8 kx_0_0
    replace kx_0_1 := cell_below bt_8 kx_0_1
    replace kx_0_2 := cell_below bt_8 kx_0_2
    replace kx_0_3 := cell_below bt_8 kx_0_3
    replace kx_0_4 := cell_below bt_8 kx_0_4
    clear bt_8
    replace H := app_hid H
    replace H := join_hid H
    cases t_8 with
    | false =>
      replace H := ite_f H
      replace H := app_hid H
      replace H := join_hid H
      replace H := ite_f H
      replace H := app_hid H
      replace H := join_hid H
      replace H := ite_f H
      replace H := app_hid H
      obtain rfl := ret_hid H
      go_wp2_with fail
      go_ret
      exact ⟨rfl, HBwt_8.out⟩
    | true =>
      replace H := ite_t H
      replace H := bind_hid H
      obtain ⟨t_13, qt_13, H⟩ := H
      go_wp2_with fail
      go_at_call 88
      refine (Go.Proofs.Ytkinlkmmelkdnaa.GsL1In.C (x_width) (0) (179)  _    qt_13).mono ?_
      rintro e_t_13 wt_13 ⟨rfl, bt_13⟩
      have HBwt_13 := Lib.hid (Below.step HBwt_8.out bt_13)
      replace kx_0_0 := cell_below bt_13 kx_0_0
      replace kx_0_1 := cell_below bt_13 kx_0_1
      replace kx_0_2 := cell_below bt_13 kx_0_2
      replace kx_0_3 := cell_below bt_13 kx_0_3
      replace kx_0_4 := cell_below bt_13 kx_0_4
      clear bt_13
      replace H := app_hid H
      replace H := join_hid H
      cases t_13 with
      | false =>
        replace H := ite_f H
        replace H := app_hid H
        replace H := join_hid H
        replace H := ite_f H
        replace H := app_hid H
        obtain rfl := ret_hid H
        go_wp2_with fail
        go_ret
        exact ⟨rfl, HBwt_13.out⟩
      | true =>
        replace H := ite_t H
        replace H := bind_hid H
        obtain ⟨t_18, qt_18, H⟩ := H
        go_wp2_with fail
        go_at_call 88
        refine (Go.Proofs.Ytkinlkmmelkdnaa.GsL1In.C (x_light) (0) (100)  _    qt_18).mono ?_
        rintro e_t_18 wt_18 ⟨rfl, bt_18⟩
        have HBwt_18 := Lib.hid (Below.step HBwt_13.out bt_18)
        replace kx_0_0 := cell_below bt_18 kx_0_0
        replace kx_0_1 := cell_below bt_18 kx_0_1
        replace kx_0_2 := cell_below bt_18 kx_0_2
        replace kx_0_3 := cell_below bt_18 kx_0_3
        replace kx_0_4 := cell_below bt_18 kx_0_4
        clear bt_18
        replace H := app_hid H
        replace H := join_hid H
        cases t_18 with
        | false =>
          replace H := ite_f H
          replace H := app_hid H
          obtain rfl := ret_hid H
          go_wp2_with fail
          go_ret
          exact ⟨rfl, HBwt_18.out⟩
        | true =>
          replace H := ite_t H
          replace H := bind_hid H
          obtain ⟨t_25, qt_25, H⟩ := H
          go_wp2_with fail
          go_at_call 88
          refine (Go.Proofs.Ytkinlkmmelkdnaa.GsL1In.C (x_dark) (0) (x_light)  _    qt_25).mono ?_
          rintro e_t_25 wt_25 ⟨rfl, bt_25⟩
          have HBwt_25 := Lib.hid (Below.step HBwt_18.out bt_25)
          replace kx_0_0 := cell_below bt_25 kx_0_0
          replace kx_0_1 := cell_below bt_25 kx_0_1
          replace kx_0_2 := cell_below bt_25 kx_0_2
          replace kx_0_3 := cell_below bt_25 kx_0_3
          replace kx_0_4 := cell_below bt_25 kx_0_4
          clear bt_25
          replace H := app_hid H
          obtain rfl := ret_hid H
          go_wp2_with fail
          go_ret
          exact ⟨rfl, HBwt_25.out⟩
end Go.Proofs.Ytkinlkmmelkdnaa.GsL7One

/- loop.example/g01062/spec.l7Good as a plain function, and the contract of the program's: where the plain one has an answer, the program has it. Conditions: slices read as lists. -/
namespace Go.Proofs.Ytkinlkmmelkdnaa.GsL7Good
set_option linter.unusedVariables false
set_option linter.unusedSimpArgs false
open Go.RowKit
open Go.Proofs.Ytkinlkmmelkdnaa.Rowed Go.Proofs.Ytkinlkmmelkdnaa.Turn Go.Proofs.Ytkinlkmmelkdnaa.Aid Go.Proofs.Ytkinlkmmelkdnaa.GoP Go.Proofs.Ytkinlkmmelkdnaa.GoM

def l0 (list : (List Go.Proofs.Ytkinlkmmelkdnaa.PShade.Shade)) (k0 : Nat) (s : Unit) (nx0 bk0 : Unit → Option (Bool)) : Option (Bool) :=
  
  Option.bind (idx list (k0 : Int)) fun (yt_8 : Go.Proofs.Ytkinlkmmelkdnaa.PShade.Shade) =>
  unShade yt_8 fun (t_8_name : ByteArray) (t_8_hue : Int) (t_8_width : Int) (t_8_dark : Int) (t_8_light : Int) =>
  Option.bind (Go.Proofs.Ytkinlkmmelkdnaa.GsL7One.P (Go.Proofs.Ytkinlkmmelkdnaa.PShade.Shade.mk t_8_name t_8_hue t_8_width t_8_dark t_8_light)) fun (t_10 : Bool) =>
  letK (!t_10) fun (t_11 : Bool) =>
  joinK (fun (t_29 : Bool) =>
  iteK t_29
  (some false)
  (appK nx0 ())) fun jt_29 => iteK t_11 (appK jt_29 true) (letK (decide (0 < (k0 : Int))) fun (t_14 : Bool) =>
  joinK (fun (t_28 : Bool) =>
  appK jt_29 t_28) fun jt_28 => iteK t_14 (letK (IntKind.i64.wrap ((k0 : Int) - 1)) fun (t_18 : Int) =>
  Option.bind (idx list t_18) fun (yt_19 : Go.Proofs.Ytkinlkmmelkdnaa.PShade.Shade) =>
  unShade yt_19 fun (t_19_name : ByteArray) (t_19_hue : Int) (t_19_width : Int) (t_19_dark : Int) (t_19_light : Int) =>
  Option.bind (idx list (k0 : Int)) fun (yt_24 : Go.Proofs.Ytkinlkmmelkdnaa.PShade.Shade) =>
  unShade yt_24 fun (t_24_name : ByteArray) (t_24_hue : Int) (t_24_width : Int) (t_24_dark : Int) (t_24_light : Int) =>
  letK (!(Op.bytesLess t_19_name.toList t_24_name.toList)) fun (t_27 : Bool) =>
  appK jt_28 t_27) (appK jt_28 false))

def e0 (list : (List Go.Proofs.Ytkinlkmmelkdnaa.PShade.Shade)) (s : Unit) : Option (Bool) :=
  
  letK (decide ((list.length : Int) ≤ 12)) fun (t_36 : Bool) =>
  some t_36

def P (list : (List Go.Proofs.Ytkinlkmmelkdnaa.PShade.Shade)) : Option (Bool) :=
  cntK (l0 list) (list.length) 0 () (e0 list)

set_option maxRecDepth 100000 in
set_option maxHeartbeats 2000000 in
theorem C (list : (List Go.Proofs.Ytkinlkmmelkdnaa.PShade.Shade)) (A0 : Option Addr) (c0 : Nat)  (w : World) (M0 : Hid (Cells w 5 A0 list.length (Go.Proofs.Ytkinlkmmelkdnaa.PShade.flat list))) (N0 : Hid (list.length ≤ 9223372036854775807))  {r : Bool} (H : Hid (P list = some r)) :
    Calls Try.prog 113 #[.slice A0 list.length c0] w (Gives (.bool r) w) := by
  have HB := Lib.hid (Below.refl w.heap.size w)
  unfold P at H
  have N0o := N0.out
  go_enter Try.func113, Try.ntmps113
  go_wp2_with fail
  go_loopg [3] (list.length) (fun m_ v3_ wr => ∃ (k0 : Nat) , k0 + m_ = list.length ∧ v3_ = .int .i64 (k0 : Int) ∧ Hid (cntK (l0 list) m_ k0 () (e0 list) = some r) ∧ Hid (Below w.heap.size w wr))
  case atStart => exact ⟨0, by omega, rfl, H, HB⟩
  case round =>
    obtain ⟨k0, hkm0, rfl, H, HBwr0⟩ := hrel
    rename World => wr0
    cases gk with
    | zero =>
      obtain rfl : k0 = list.length := by omega
      have hc0 : decide (((list.length : Nat) : Int) < ((list.length : Nat) : Int)) = false := by simp
      replace H := cnt_zero H
      unfold e0 at H
      replace H := let_hid H
      obtain ⟨t_36, ht_36, H⟩ := H
      obtain rfl := ret_hid H
      go_wp2_with fail
      go_ret
      exact ⟨rfl, HBwr0.out⟩
    | succ m0 =>
      have hlt0 : k0 < list.length := by omega
      have hc0 : decide ((k0 : Int) < ((list.length : Nat) : Int)) = true := by simp; omega
      replace H := cnt_succ H
      unfold l0 at H
      go_wp2_with fail
      replace H := idx_hid H
      obtain ⟨nt_8, yt_8, et_8, lt_8, gt_8, H⟩ := H
      obtain rfl : k0 = nt_8 := by omega
      clear et_8
      obtain ⟨t_8_name, t_8_hue, t_8_width, t_8_dark, t_8_light⟩ := yt_8
      replace H := unShade_hid H
      obtain ⟨ab_t_8, ao_t_8, zt_8, At_8, z_t_8, ct_8_0, ct_8_1, ct_8_2, ct_8_3, ct_8_4⟩ := Go.Proofs.Ytkinlkmmelkdnaa.OShade.at_ M0.out lt_8
      obtain rfl := Option.some.inj (gt_8.out.symm.trans z_t_8)
      subst At_8
      have ltt_8 := cell_lt ct_8_0
      replace ct_8_0 := cell_below HBwr0.out ct_8_0
      replace ct_8_1 := cell_below HBwr0.out ct_8_1
      replace ct_8_2 := cell_below HBwr0.out ct_8_2
      replace ct_8_3 := cell_below HBwr0.out ct_8_3
      replace ct_8_4 := cell_below HBwr0.out ct_8_4
      clear z_t_8
      have b0t_8 : (0 : Int) ≤ (k0 : Int) := by omega
      have b1t_8 : (k0 : Int) < ((list.length : Nat) : Int) := by omega
      have b2t_8 : ((k0 : Int)).toNat = k0 := by omega
      have Hct_8_0 := Lib.hid ct_8_0
      replace ct_8_0 := cell_regrown ct_8_0
      have Hct_8_1 := Lib.hid ct_8_1
      replace ct_8_1 := cell_regrown ct_8_1
      have Hct_8_2 := Lib.hid ct_8_2
      replace ct_8_2 := cell_regrown ct_8_2
      have Hct_8_3 := Lib.hid ct_8_3
      replace ct_8_3 := cell_regrown ct_8_3
      have Hct_8_4 := Lib.hid ct_8_4
      replace ct_8_4 := cell_regrown ct_8_4
      replace H := bind_hid H
      obtain ⟨t_10, qt_10, H⟩ := H
      have nt_10 : ∀ d os, Calls Try.prog 123 #[.agg #[.string t_8_name, .int .i64 t_8_hue, .int .i64 t_8_width, .int .i64 t_8_dark, .int .i64 t_8_light]] (Go.Sort.grow (redrawn wr0 d) os) fun e w'' => e = .returned (.bool t_10) ∧ ∃ p : Regrown, w'' = Go.Sort.grow (redrawn wr0 p.d) p.os := fun d os => Calls.regrown_of (Go.Proofs.Ytkinlkmmelkdnaa.GsL7One.C ((Go.Proofs.Ytkinlkmmelkdnaa.PShade.Shade.mk t_8_name t_8_hue t_8_width t_8_dark t_8_light))  _    qt_10)
      cases t_10 with
      | false =>
        replace H := let_hid H
        obtain ⟨t_11, ht_11, H⟩ := H
        obtain rfl : t_11 = true := ht_11.symm
        replace H := join_hid H
        replace H := ite_t H
        replace H := app_hid H
        refine wp_region_quiet_below (by kernel_rfl) (by kernel_rfl) ?_
        repeat (go_big_quiet_step (first | (go_at_call 123; exact nt_10 _ _)))
        refine wpQuiet_nil ?_
        intro Y4 hY4
        replace hY4 := below_class hY4
        clear nt_10
        replace ct_8_0 := Hct_8_0.out
        clear Hct_8_0
        replace ct_8_1 := Hct_8_1.out
        clear Hct_8_1
        replace ct_8_2 := Hct_8_2.out
        clear Hct_8_2
        replace ct_8_3 := Hct_8_3.out
        clear Hct_8_3
        replace ct_8_4 := Hct_8_4.out
        clear Hct_8_4
        have HBY4 := Lib.hid (Below.step HBwr0.out hY4)
        replace ct_8_0 := cell_below hY4 ct_8_0
        replace ct_8_1 := cell_below hY4 ct_8_1
        replace ct_8_2 := cell_below hY4 ct_8_2
        replace ct_8_3 := cell_below hY4 ct_8_3
        replace ct_8_4 := cell_below hY4 ct_8_4
        clear hY4
        replace H := ite_t H
        obtain rfl := ret_hid H
        go_wp2_with fail
        go_ret
        exact ⟨rfl, HBY4.out⟩
      | true =>
        replace H := let_hid H
        obtain ⟨t_11, ht_11, H⟩ := H
        obtain rfl : t_11 = false := ht_11.symm
        replace H := join_hid H
        replace H := ite_f H
        replace H := let_hid H
        obtain ⟨t_14, ht_14, H⟩ := H
        replace H := join_hid H
        cases t_14 with
        | false =>
          have nht_14 : ¬ (0 < k0) := by have := of_decide_eq_false ht_14; omega
          replace H := ite_f H
          replace H := app_hid H
          replace H := app_hid H
          refine wp_region_quiet_below (by kernel_rfl) (by kernel_rfl) ?_
          repeat (go_big_quiet_step (first | (go_at_call 123; exact nt_10 _ _)))
          refine wpQuiet_nil ?_
          intro Y4 hY4
          replace hY4 := below_class hY4
          clear nt_10
          replace ct_8_0 := Hct_8_0.out
          clear Hct_8_0
          replace ct_8_1 := Hct_8_1.out
          clear Hct_8_1
          replace ct_8_2 := Hct_8_2.out
          clear Hct_8_2
          replace ct_8_3 := Hct_8_3.out
          clear Hct_8_3
          replace ct_8_4 := Hct_8_4.out
          clear Hct_8_4
          have HBY4 := Lib.hid (Below.step HBwr0.out hY4)
          replace ct_8_0 := cell_below hY4 ct_8_0
          replace ct_8_1 := cell_below hY4 ct_8_1
          replace ct_8_2 := cell_below hY4 ct_8_2
          replace ct_8_3 := cell_below hY4 ct_8_3
          replace ct_8_4 := cell_below hY4 ct_8_4
          clear hY4
          replace H := ite_f H
          replace H := app_hid H
          go_wp2_with fail
          go_roundg m0
          case measure => omega
          case rel => exact ⟨k0 + 1, by omega, by go_num, H, HBY4⟩
        | true =>
          have nht_14 : 0 < k0 := by have := of_decide_eq_true ht_14; omega
          replace H := ite_t H
          replace H := let_hid H
          obtain ⟨t_18, ht_18, H⟩ := H
          replace H := idx_hid H
          obtain ⟨nt_19, yt_19, et_19, lt_19, gt_19, H⟩ := H
          subst et_19
          obtain ⟨t_19_name, t_19_hue, t_19_width, t_19_dark, t_19_light⟩ := yt_19
          replace H := unShade_hid H
          obtain ⟨ab_t_19, ao_t_19, zt_19, At_19, z_t_19, ct_19_0, ct_19_1, ct_19_2, ct_19_3, ct_19_4⟩ := Go.Proofs.Ytkinlkmmelkdnaa.OShade.at_ M0.out lt_19
          obtain rfl := Option.some.inj (gt_19.out.symm.trans z_t_19)
          simp only [Option.some.injEq, Addr.mk.injEq] at At_19
          obtain ⟨rfl, rfl, _⟩ := At_19
          have ltt_19 := cell_lt ct_19_0
          replace ct_19_0 := cell_below HBwr0.out ct_19_0
          replace ct_19_1 := cell_below HBwr0.out ct_19_1
          replace ct_19_2 := cell_below HBwr0.out ct_19_2
          replace ct_19_3 := cell_below HBwr0.out ct_19_3
          replace ct_19_4 := cell_below HBwr0.out ct_19_4
          clear z_t_19
          have b0t_19 : (0 : Int) ≤ (nt_19 : Int) := by omega
          have b1t_19 : (nt_19 : Int) < ((list.length : Nat) : Int) := by omega
          have b2t_19 : ((nt_19 : Int)).toNat = nt_19 := by omega
          have Hct_19_0 := Lib.hid ct_19_0
          replace ct_19_0 := cell_regrown ct_19_0
          have Hct_19_1 := Lib.hid ct_19_1
          replace ct_19_1 := cell_regrown ct_19_1
          have Hct_19_2 := Lib.hid ct_19_2
          replace ct_19_2 := cell_regrown ct_19_2
          have Hct_19_3 := Lib.hid ct_19_3
          replace ct_19_3 := cell_regrown ct_19_3
          have Hct_19_4 := Lib.hid ct_19_4
          replace ct_19_4 := cell_regrown ct_19_4
          replace H := idx_hid H
          obtain ⟨nt_24, yt_24, et_24, lt_24, gt_24, H⟩ := H
          obtain rfl : k0 = nt_24 := by omega
          clear et_24
          obtain rfl := Option.some.inj (gt_8.out.symm.trans gt_24.out)
          clear gt_24 lt_24
          replace H := unShade_hid H
          replace H := let_hid H
          obtain ⟨t_27, ht_27, H⟩ := H
          replace H := app_hid H
          replace H := app_hid H
          refine wp_region_quiet_below (by kernel_rfl) (by kernel_rfl) ?_
          repeat (go_big_quiet_step (first | (go_at_call 123; exact nt_10 _ _)))
          refine wpQuiet_nil ?_
          intro Y4 hY4
          replace hY4 := below_class hY4
          clear nt_10
          replace ct_8_0 := Hct_8_0.out
          clear Hct_8_0
          replace ct_8_1 := Hct_8_1.out
          clear Hct_8_1
          replace ct_8_2 := Hct_8_2.out
          clear Hct_8_2
          replace ct_8_3 := Hct_8_3.out
          clear Hct_8_3
          replace ct_8_4 := Hct_8_4.out
          clear Hct_8_4
          replace ct_19_0 := Hct_19_0.out
          clear Hct_19_0
          replace ct_19_1 := Hct_19_1.out
          clear Hct_19_1
          replace ct_19_2 := Hct_19_2.out
          clear Hct_19_2
          replace ct_19_3 := Hct_19_3.out
          clear Hct_19_3
          replace ct_19_4 := Hct_19_4.out
          clear Hct_19_4
          have HBY4 := Lib.hid (Below.step HBwr0.out hY4)
          replace ct_8_0 := cell_below hY4 ct_8_0
          replace ct_8_1 := cell_below hY4 ct_8_1
          replace ct_8_2 := cell_below hY4 ct_8_2
          replace ct_8_3 := cell_below hY4 ct_8_3
          replace ct_8_4 := cell_below hY4 ct_8_4
          replace ct_19_0 := cell_below hY4 ct_19_0
          replace ct_19_1 := cell_below hY4 ct_19_1
          replace ct_19_2 := cell_below hY4 ct_19_2
          replace ct_19_3 := cell_below hY4 ct_19_3
          replace ct_19_4 := cell_below hY4 ct_19_4
          clear hY4
          cases t_27 with
          | false =>
            replace H := ite_f H
            replace H := app_hid H
            go_wp2_with fail
            go_roundg m0
            case measure => omega
            case rel => exact ⟨k0 + 1, by omega, by go_num, H, HBY4⟩
          | true =>
            replace H := ite_t H
            obtain rfl := ret_hid H
            go_wp2_with fail
            go_ret
            exact ⟨rfl, HBY4.out⟩
end Go.Proofs.Ytkinlkmmelkdnaa.GsL7Good

/- loop.example/g01062/spec.l1Most as a plain function, and the contract of the program's: where the plain one has an answer, the program has it. Conditions: slices read as lists. -/
namespace Go.Proofs.Ytkinlkmmelkdnaa.GsL1Most
set_option linter.unusedVariables false
set_option linter.unusedSimpArgs false
open Go.RowKit
open Go.Proofs.Ytkinlkmmelkdnaa.Rowed Go.Proofs.Ytkinlkmmelkdnaa.Turn Go.Proofs.Ytkinlkmmelkdnaa.Aid Go.Proofs.Ytkinlkmmelkdnaa.GoP Go.Proofs.Ytkinlkmmelkdnaa.GoM

def P (a : Int) (b : Int) : Option (Int) :=
  letK (decide (b < a)) fun (t_3 : Bool) =>
  iteK t_3
  (some a)
  (some b)

set_option maxRecDepth 100000 in
set_option maxHeartbeats 2000000 in
theorem C (a : Int) (b : Int)   (w : World)   {r : Int} (H : Hid (P a b = some r)) :
    Calls Try.prog 139 #[.int .i64 a, .int .i64 b] w (Gives (.int .i64 r) w) := by
  have HB := Lib.hid (Below.refl w.heap.size w)
  unfold P at H
  go_enter Try.func139, Try.ntmps139
  replace H := let_hid H
  obtain ⟨t_3, ht_3, H⟩ := H
  cases t_3 with
  | false =>
    replace H := ite_f H
    obtain rfl := ret_hid H
    go_wp2_with fail
    go_ret
    exact ⟨rfl, HB.out⟩
  | true =>
    replace H := ite_t H
    obtain rfl := ret_hid H
    go_wp2_with fail
    go_ret
    exact ⟨rfl, HB.out⟩

set_option maxRecDepth 100000 in
set_option maxHeartbeats 2000000 in
theorem C0 (a : Int) (b : Int)   (w : World)   {r : Int} (H : Hid (P a b = some r)) :
    Calls Try.prog 139 #[.int .i64 a, .int .i64 b] w (fun e w'' => e = .returned (.int .i64 r) ∧ w'' = w) := by
  have HB := Lib.hid (Below.refl w.heap.size w)
  unfold P at H
  go_enter Try.func139, Try.ntmps139
  replace H := let_hid H
  obtain ⟨t_3, ht_3, H⟩ := H
  cases t_3 with
  | false =>
    replace H := ite_f H
    obtain rfl := ret_hid H
    go_wp2_with fail
    go_ret
    exact ⟨rfl, rfl⟩
  | true =>
    replace H := ite_t H
    obtain rfl := ret_hid H
    go_wp2_with fail
    go_ret
    exact ⟨rfl, rfl⟩
end Go.Proofs.Ytkinlkmmelkdnaa.GsL1Most

/- loop.example/g01062/spec.l1Least as a plain function, and the contract of the program's: where the plain one has an answer, the program has it. Conditions: slices read as lists. -/
namespace Go.Proofs.Ytkinlkmmelkdnaa.GsL1Least
set_option linter.unusedVariables false
set_option linter.unusedSimpArgs false
open Go.RowKit
open Go.Proofs.Ytkinlkmmelkdnaa.Rowed Go.Proofs.Ytkinlkmmelkdnaa.Turn Go.Proofs.Ytkinlkmmelkdnaa.Aid Go.Proofs.Ytkinlkmmelkdnaa.GoP Go.Proofs.Ytkinlkmmelkdnaa.GoM

def P (a : Int) (b : Int) : Option (Int) :=
  letK (decide (a < b)) fun (t_3 : Bool) =>
  iteK t_3
  (some a)
  (some b)

set_option maxRecDepth 100000 in
set_option maxHeartbeats 2000000 in
theorem C (a : Int) (b : Int)   (w : World)   {r : Int} (H : Hid (P a b = some r)) :
    Calls Try.prog 140 #[.int .i64 a, .int .i64 b] w (Gives (.int .i64 r) w) := by
  have HB := Lib.hid (Below.refl w.heap.size w)
  unfold P at H
  go_enter Try.func140, Try.ntmps140
  replace H := let_hid H
  obtain ⟨t_3, ht_3, H⟩ := H
  cases t_3 with
  | false =>
    replace H := ite_f H
    obtain rfl := ret_hid H
    go_wp2_with fail
    go_ret
    exact ⟨rfl, HB.out⟩
  | true =>
    replace H := ite_t H
    obtain rfl := ret_hid H
    go_wp2_with fail
    go_ret
    exact ⟨rfl, HB.out⟩

set_option maxRecDepth 100000 in
set_option maxHeartbeats 2000000 in
theorem C0 (a : Int) (b : Int)   (w : World)   {r : Int} (H : Hid (P a b = some r)) :
    Calls Try.prog 140 #[.int .i64 a, .int .i64 b] w (fun e w'' => e = .returned (.int .i64 r) ∧ w'' = w) := by
  have HB := Lib.hid (Below.refl w.heap.size w)
  unfold P at H
  go_enter Try.func140, Try.ntmps140
  replace H := let_hid H
  obtain ⟨t_3, ht_3, H⟩ := H
  cases t_3 with
  | false =>
    replace H := ite_f H
    obtain rfl := ret_hid H
    go_wp2_with fail
    go_ret
    exact ⟨rfl, rfl⟩
  | true =>
    replace H := ite_t H
    obtain rfl := ret_hid H
    go_wp2_with fail
    go_ret
    exact ⟨rfl, rfl⟩
end Go.Proofs.Ytkinlkmmelkdnaa.GsL1Least

/- loop.example/g01062/spec.l7Far as a plain function, and the contract of the program's: where the plain one has an answer, the program has it. Conditions: slices read as lists. -/
namespace Go.Proofs.Ytkinlkmmelkdnaa.GsL7Far
set_option linter.unusedVariables false
set_option linter.unusedSimpArgs false
open Go.RowKit
open Go.Proofs.Ytkinlkmmelkdnaa.Rowed Go.Proofs.Ytkinlkmmelkdnaa.Turn Go.Proofs.Ytkinlkmmelkdnaa.Aid Go.Proofs.Ytkinlkmmelkdnaa.GoP Go.Proofs.Ytkinlkmmelkdnaa.GoM

def P (a : Int) (b : Int) : Option (Int) :=
  letK (IntKind.i64.wrap (a - b)) fun (t_3 : Int) =>
  letK (IntKind.i64.wrap (b - a)) fun (t_6 : Int) =>
  Option.bind (Go.Proofs.Ytkinlkmmelkdnaa.GsL1Most.P t_3 t_6) fun (t_7 : Int) =>
  letK (IntKind.i64.wrap (360 - t_7)) fun (t_11 : Int) =>
  Option.bind (Go.Proofs.Ytkinlkmmelkdnaa.GsL1Least.P t_7 t_11) fun (t_12 : Int) =>
  some t_12

set_option maxRecDepth 100000 in
set_option maxHeartbeats 2000000 in
theorem C (a : Int) (b : Int)   (w : World)   {r : Int} (H : Hid (P a b = some r)) :
    Calls Try.prog 116 #[.int .i64 a, .int .i64 b] w (Gives (.int .i64 r) w) := by
  have HB := Lib.hid (Below.refl w.heap.size w)
  unfold P at H
  go_enter Try.func116, Try.ntmps116
  replace H := let_hid H
  obtain ⟨t_3, ht_3, H⟩ := H
  replace H := let_hid H
  obtain ⟨t_6, ht_6, H⟩ := H
  replace H := bind_hid H
  obtain ⟨t_7, qt_7, H⟩ := H
  go_wp2_with fail
  go_at_call 139
  refine (Go.Proofs.Ytkinlkmmelkdnaa.GsL1Most.C (t_3) (t_6)  _    qt_7).mono ?_
  rintro e_t_7 wt_7 ⟨rfl, bt_7⟩
  have HBwt_7 := Lib.hid (Below.step HB.out bt_7)
  clear bt_7
  replace H := let_hid H
  obtain ⟨t_11, ht_11, H⟩ := H
  replace H := bind_hid H
  obtain ⟨t_12, qt_12, H⟩ := H
  go_wp2_with fail
  go_at_call 140
  refine (Go.Proofs.Ytkinlkmmelkdnaa.GsL1Least.C (t_7) (t_11)  _    qt_12).mono ?_
  rintro e_t_12 wt_12 ⟨rfl, bt_12⟩
  have HBwt_12 := Lib.hid (Below.step HBwt_7.out bt_12)
  clear bt_12
  obtain rfl := ret_hid H
  go_wp2_with fail
  go_ret
  exact ⟨rfl, HBwt_12.out⟩
end Go.Proofs.Ytkinlkmmelkdnaa.GsL7Far

/- loop.example/g01062/spec.l7Takes as a plain function, and the contract of the program's: where the plain one has an answer, the program has it. Conditions: slices read as lists. -/
namespace Go.Proofs.Ytkinlkmmelkdnaa.GsL7Takes
set_option linter.unusedVariables false
set_option linter.unusedSimpArgs false
open Go.RowKit
open Go.Proofs.Ytkinlkmmelkdnaa.Rowed Go.Proofs.Ytkinlkmmelkdnaa.Turn Go.Proofs.Ytkinlkmmelkdnaa.Aid Go.Proofs.Ytkinlkmmelkdnaa.GoP Go.Proofs.Ytkinlkmmelkdnaa.GoM

def P (x : Go.Proofs.Ytkinlkmmelkdnaa.PShade.Shade) (hue : Int) (light : Int) : Option (Bool) :=
  unShade x fun (x_name : ByteArray) (x_hue : Int) (x_width : Int) (x_dark : Int) (x_light : Int) =>
  Option.bind (Go.Proofs.Ytkinlkmmelkdnaa.GsL7Far.P x_hue hue) fun (t_5 : Int) =>
  letK (decide (t_5 ≤ x_width)) fun (t_8 : Bool) =>
  joinK (fun (t_16 : Bool) =>
  some t_16) fun jt_16 => iteK t_8 (Option.bind (Go.Proofs.Ytkinlkmmelkdnaa.GsL1In.P light x_dark x_light) fun (t_15 : Bool) =>
  appK jt_16 t_15) (appK jt_16 false)

set_option maxRecDepth 100000 in
set_option maxHeartbeats 2000000 in
theorem C (x : Go.Proofs.Ytkinlkmmelkdnaa.PShade.Shade) (hue : Int) (light : Int)   (w : World)   {r : Bool} (H : Hid (P x hue light = some r)) :
    Calls Try.prog 115 #[x.val, .int .i64 hue, .int .i64 light] w (Gives (.bool r) w) := by
  have HB := Lib.hid (Below.refl w.heap.size w)
  unfold P at H
  obtain ⟨x_name, x_hue, x_width, x_dark, x_light⟩ := x
  replace H := unShade_hid H
  unfold Go.Proofs.Ytkinlkmmelkdnaa.PShade.Shade.val
  go_enter Try.func115, Try.ntmps115
  obtain ⟨w_x_0, hw_x_0⟩ : ∃ x, w.alloc (.cells #[.string x_name, .int .i64 x_hue, .int .i64 x_width, .int .i64 x_dark, .int .i64 x_light] 74) = x := ⟨_, rfl⟩
  have bw_x_0 : Below w.heap.size w w_x_0 := by rw [← hw_x_0]; exact (Below.refl _ _).alloc (Nat.le_refl _) _
  have HBw_x_0 := Lib.hid (Below.step HB.out bw_x_0)
  clear bw_x_0
  have kx_0_0 : w_x_0.cell? ⟨w.heap.size, 0, none⟩ = some (.string x_name) := by rw [← hw_x_0]; exact box_new _ _ _ 0 _ rfl
  have kx_0_1 : w_x_0.cell? ⟨w.heap.size, 1, none⟩ = some (.int .i64 x_hue) := by rw [← hw_x_0]; exact box_new _ _ _ 1 _ rfl
  have kx_0_2 : w_x_0.cell? ⟨w.heap.size, 2, none⟩ = some (.int .i64 x_width) := by rw [← hw_x_0]; exact box_new _ _ _ 2 _ rfl
  have kx_0_3 : w_x_0.cell? ⟨w.heap.size, 3, none⟩ = some (.int .i64 x_dark) := by rw [← hw_x_0]; exact box_new _ _ _ 3 _ rfl
  have kx_0_4 : w_x_0.cell? ⟨w.heap.size, 4, none⟩ = some (.int .i64 x_light) := by rw [← hw_x_0]; exact box_new _ _ _ 4 _ rfl
  go_wp2_with fail
  have Hkx_0_0 := Lib.hid kx_0_0
  replace kx_0_0 := cell_regrown kx_0_0
  have Hkx_0_1 := Lib.hid kx_0_1
  replace kx_0_1 := cell_regrown kx_0_1
  have Hkx_0_2 := Lib.hid kx_0_2
  replace kx_0_2 := cell_regrown kx_0_2
  have Hkx_0_3 := Lib.hid kx_0_3
  replace kx_0_3 := cell_regrown kx_0_3
  have Hkx_0_4 := Lib.hid kx_0_4
  replace kx_0_4 := cell_regrown kx_0_4
  replace H := bind_hid H
  obtain ⟨t_5, qt_5, H⟩ := H
  have nt_5 : ∀ d os, Calls Try.prog 116 #[.int .i64 x_hue, .int .i64 hue] (Go.Sort.grow (redrawn w_x_0 d) os) fun e w'' => e = .returned (.int .i64 t_5) ∧ ∃ p : Regrown, w'' = Go.Sort.grow (redrawn w_x_0 p.d) p.os := fun d os => Calls.regrown_of (Go.Proofs.Ytkinlkmmelkdnaa.GsL7Far.C (x_hue) (hue)  _    qt_5)
  replace H := let_hid H
  obtain ⟨t_8, ht_8, H⟩ := H
  replace H := join_hid H
  cases t_8 with
  | false =>
    replace H := ite_f H
    replace H := app_hid H
    refine wp_region_quiet_below (by kernel_rfl) (by kernel_rfl) ?_
    repeat (go_big_quiet_step (first | (go_at_call 116; exact nt_5 _ _)))
    refine wpQuiet_nil ?_
    intro Y1 hY1
    replace hY1 := below_class hY1
    clear nt_5
    replace kx_0_0 := Hkx_0_0.out
    clear Hkx_0_0
    replace kx_0_1 := Hkx_0_1.out
    clear Hkx_0_1
    replace kx_0_2 := Hkx_0_2.out
    clear Hkx_0_2
    replace kx_0_3 := Hkx_0_3.out
    clear Hkx_0_3
    replace kx_0_4 := Hkx_0_4.out
    clear Hkx_0_4
    have HBY1 := Lib.hid (Below.step HBw_x_0.out hY1)
    replace kx_0_0 := cell_below hY1 kx_0_0
    replace kx_0_1 := cell_below hY1 kx_0_1
    replace kx_0_2 := cell_below hY1 kx_0_2
    replace kx_0_3 := cell_below hY1 kx_0_3
    replace kx_0_4 := cell_below hY1 kx_0_4
    clear hY1
    obtain rfl := ret_hid H
    go_wp2_with fail
    go_ret
    exact ⟨rfl, HBY1.out⟩
  | true =>
    replace H := ite_t H
    replace H := bind_hid H
    obtain ⟨t_15, qt_15, H⟩ := H
    have nt_15 : ∀ d os, Calls Try.prog 88 #[.int .i64 light, .int .i64 x_dark, .int .i64 x_light] (Go.Sort.grow (redrawn w_x_0 d) os) fun e w'' => e = .returned (.bool t_15) ∧ ∃ p : Regrown, w'' = Go.Sort.grow (redrawn w_x_0 p.d) p.os := fun d os => Calls.regrown_of (Go.Proofs.Ytkinlkmmelkdnaa.GsL1In.C (light) (x_dark) (x_light)  _    qt_15)
    replace H := app_hid H
    refine wp_region_quiet_below (by kernel_rfl) (by kernel_rfl) ?_
    repeat (go_big_quiet_step (first | (go_at_call 116; exact nt_5 _ _) | (go_at_call 88; exact nt_15 _ _)))
    refine wpQuiet_nil ?_
    intro Y1 hY1
    replace hY1 := below_class hY1
    clear nt_5 nt_15
    replace kx_0_0 := Hkx_0_0.out
    clear Hkx_0_0
    replace kx_0_1 := Hkx_0_1.out
    clear Hkx_0_1
    replace kx_0_2 := Hkx_0_2.out
    clear Hkx_0_2
    replace kx_0_3 := Hkx_0_3.out
    clear Hkx_0_3
    replace kx_0_4 := Hkx_0_4.out
    clear Hkx_0_4
    have HBY1 := Lib.hid (Below.step HBw_x_0.out hY1)
    replace kx_0_0 := cell_below hY1 kx_0_0
    replace kx_0_1 := cell_below hY1 kx_0_1
    replace kx_0_2 := cell_below hY1 kx_0_2
    replace kx_0_3 := cell_below hY1 kx_0_3
    replace kx_0_4 := cell_below hY1 kx_0_4
    clear hY1
    obtain rfl := ret_hid H
    go_wp2_with fail
    go_ret
    exact ⟨rfl, HBY1.out⟩
end Go.Proofs.Ytkinlkmmelkdnaa.GsL7Takes

/- loop.example/g01062/spec.BestShade as a plain function, and the contract of the program's: where the plain one has an answer, the program has it. Conditions: slices read as lists. -/
namespace Go.Proofs.Ytkinlkmmelkdnaa.GsBestShade
set_option linter.unusedVariables false
set_option linter.unusedSimpArgs false
open Go.RowKit
open Go.Proofs.Ytkinlkmmelkdnaa.Rowed Go.Proofs.Ytkinlkmmelkdnaa.Turn Go.Proofs.Ytkinlkmmelkdnaa.Aid Go.Proofs.Ytkinlkmmelkdnaa.GoP Go.Proofs.Ytkinlkmmelkdnaa.GoM

def l0 (list : (List Go.Proofs.Ytkinlkmmelkdnaa.PShade.Shade)) (hue : Int) (light : Int) (k0 : Nat) (s : Int) (nx0 bk0 : Int → Option (ByteArray × Bool)) : Option (ByteArray × Bool) :=
  letK s fun best_8l0 =>
  Option.bind (idx list (k0 : Int)) fun (yt_25 : Go.Proofs.Ytkinlkmmelkdnaa.PShade.Shade) =>
  unShade yt_25 fun (t_25_name : ByteArray) (t_25_hue : Int) (t_25_width : Int) (t_25_dark : Int) (t_25_light : Int) =>
  Option.bind (Go.Proofs.Ytkinlkmmelkdnaa.GsL7Takes.P (Go.Proofs.Ytkinlkmmelkdnaa.PShade.Shade.mk t_25_name t_25_hue t_25_width t_25_dark t_25_light) hue light) fun (t_29 : Bool) =>
  letK (!t_29) fun (t_30 : Bool) =>
  iteK t_30
  (appK nx0 (best_8l0))
  (letK (decide (best_8l0 < 0)) fun (t_32 : Bool) =>
  iteK t_32
  (appK nx0 ((k0 : Int)))
  (Option.bind (idx list (k0 : Int)) fun (yt_37 : Go.Proofs.Ytkinlkmmelkdnaa.PShade.Shade) =>
  unShade yt_37 fun (t_37_name : ByteArray) (t_37_hue : Int) (t_37_width : Int) (t_37_dark : Int) (t_37_light : Int) =>
  Option.bind (Go.Proofs.Ytkinlkmmelkdnaa.GsL7Far.P t_37_hue hue) fun (t_41 : Int) =>
  Option.bind (idx list best_8l0) fun (yt_44 : Go.Proofs.Ytkinlkmmelkdnaa.PShade.Shade) =>
  unShade yt_44 fun (t_44_name : ByteArray) (t_44_hue : Int) (t_44_width : Int) (t_44_dark : Int) (t_44_light : Int) =>
  Option.bind (Go.Proofs.Ytkinlkmmelkdnaa.GsL7Far.P t_44_hue hue) fun (t_48 : Int) =>
  letK (decide (t_41 < t_48)) fun (t_53 : Bool) =>
  joinK (fun (t_71 : Bool) =>
  iteK t_71
  (appK nx0 ((k0 : Int)))
  (appK nx0 (best_8l0))) fun jt_71 => iteK t_53 (appK jt_71 true) (letK (t_41 == t_48) fun (t_57 : Bool) =>
  joinK (fun (t_70 : Bool) =>
  appK jt_71 t_70) fun jt_70 => iteK t_57 (Option.bind (idx list (k0 : Int)) fun (yt_61 : Go.Proofs.Ytkinlkmmelkdnaa.PShade.Shade) =>
  unShade yt_61 fun (t_61_name : ByteArray) (t_61_hue : Int) (t_61_width : Int) (t_61_dark : Int) (t_61_light : Int) =>
  Option.bind (idx list best_8l0) fun (yt_66 : Go.Proofs.Ytkinlkmmelkdnaa.PShade.Shade) =>
  unShade yt_66 fun (t_66_name : ByteArray) (t_66_hue : Int) (t_66_width : Int) (t_66_dark : Int) (t_66_light : Int) =>
  letK (decide (t_61_width < t_66_width)) fun (t_69 : Bool) =>
  appK jt_70 t_69) (appK jt_70 false))))

def e0 (list : (List Go.Proofs.Ytkinlkmmelkdnaa.PShade.Shade)) (s : Int) : Option (ByteArray × Bool) :=
  letK s fun best_8l0 =>
  letK (decide (best_8l0 < 0)) fun (t_78 : Bool) =>
  iteK t_78
  (some ((⟨#[]⟩ : ByteArray), false))
  (Option.bind (idx list best_8l0) fun (yt_83 : Go.Proofs.Ytkinlkmmelkdnaa.PShade.Shade) =>
  unShade yt_83 fun (t_83_name : ByteArray) (t_83_hue : Int) (t_83_width : Int) (t_83_dark : Int) (t_83_light : Int) =>
  some (t_83_name, true))

def P (list : (List Go.Proofs.Ytkinlkmmelkdnaa.PShade.Shade)) (hue : Int) (light : Int) : Option (ByteArray × Bool) :=
  Option.bind (Go.Proofs.Ytkinlkmmelkdnaa.GsL7Good.P list) fun (t_3 : Bool) =>
  letK (!t_3) fun (t_4 : Bool) =>
  joinK (fun (t_9 : Bool) =>
  joinK (fun (t_14 : Bool) =>
  iteK t_14
  (some ((⟨#[]⟩ : ByteArray), false))
  (cntK (l0 list hue light) (list.length) 0 ((-1)) (e0 list))) fun jt_14 => iteK t_9 (appK jt_14 true) (Option.bind (Go.Proofs.Ytkinlkmmelkdnaa.GsL1In.P light 0 100) fun (t_12 : Bool) =>
  letK (!t_12) fun (t_13 : Bool) =>
  appK jt_14 t_13)) fun jt_9 => iteK t_4 (appK jt_9 true) (Option.bind (Go.Proofs.Ytkinlkmmelkdnaa.GsL7Hue.P hue) fun (t_7 : Bool) =>
  letK (!t_7) fun (t_8 : Bool) =>
  appK jt_9 t_8)

set_option maxRecDepth 100000 in
set_option maxHeartbeats 2000000 in
theorem C (list : (List Go.Proofs.Ytkinlkmmelkdnaa.PShade.Shade)) (hue : Int) (light : Int) (A0 : Option Addr) (c0 : Nat)  (w : World) (M0 : Hid (Cells w 5 A0 list.length (Go.Proofs.Ytkinlkmmelkdnaa.PShade.flat list))) (N0 : Hid (list.length ≤ 9223372036854775807))  {r0 : ByteArray} {r1 : Bool} (H : Hid (P list hue light = some (r0, r1))) :
    Calls Try.prog 54 #[.slice A0 list.length c0, .int .i64 hue, .int .i64 light] w (Gives (.tuple #[.string r0, .bool r1]) w) := by
  have HB := Lib.hid (Below.refl w.heap.size w)
  unfold P at H
  have N0o := N0.out
  go_enter Try.func54, Try.ntmps54
  replace H := bind_hid H
  obtain ⟨t_3, qt_3, H⟩ := H
  go_wp2_with fail
  go_at_call 113
  refine (Go.Proofs.Ytkinlkmmelkdnaa.GsL7Good.C (list) A0 c0 _   (Lib.hid (Cells.below M0.out HB.out)) N0 qt_3).mono ?_
  rintro e_t_3 wt_3 ⟨rfl, bt_3⟩
  have HBwt_3 := Lib.hid (Below.step HB.out bt_3)
  clear bt_3
  cases t_3 with
  | false =>
    replace H := let_hid H
    obtain ⟨t_4, ht_4, H⟩ := H
    obtain rfl : t_4 = true := ht_4.symm
    replace H := join_hid H
    replace H := ite_t H
    replace H := app_hid H
    replace H := join_hid H
    replace H := ite_t H
    replace H := app_hid H
    replace H := ite_t H
    cases ret_hid H
    go_wp2_with fail
    go_ret2
    exact ⟨rfl, HBwt_3.out⟩
  | true =>
    replace H := let_hid H
    obtain ⟨t_4, ht_4, H⟩ := H
    obtain rfl : t_4 = false := ht_4.symm
    replace H := join_hid H
    replace H := ite_f H
    replace H := bind_hid H
    obtain ⟨t_7, qt_7, H⟩ := H
    go_wp2_with fail
    go_at_call 114
    refine (Go.Proofs.Ytkinlkmmelkdnaa.GsL7Hue.C (hue)  _    qt_7).mono ?_
    rintro e_t_7 wt_7 ⟨rfl, bt_7⟩
    have HBwt_7 := Lib.hid (Below.step HBwt_3.out bt_7)
    clear bt_7
    cases t_7 with
    | false =>
      replace H := let_hid H
      obtain ⟨t_8, ht_8, H⟩ := H
      obtain rfl : t_8 = true := ht_8.symm
      replace H := app_hid H
      replace H := join_hid H
      replace H := ite_t H
      replace H := app_hid H
      replace H := ite_t H
      cases ret_hid H
      go_wp2_with fail
      go_ret2
      exact ⟨rfl, HBwt_7.out⟩
    | true =>
      replace H := let_hid H
      obtain ⟨t_8, ht_8, H⟩ := H
      obtain rfl : t_8 = false := ht_8.symm
      replace H := app_hid H
      replace H := join_hid H
      replace H := ite_f H
      replace H := bind_hid H
      obtain ⟨t_12, qt_12, H⟩ := H
      go_wp2_with fail
      go_at_call 88
      refine (Go.Proofs.Ytkinlkmmelkdnaa.GsL1In.C (light) (0) (100)  _    qt_12).mono ?_
      rintro e_t_12 wt_12 ⟨rfl, bt_12⟩
      have HBwt_12 := Lib.hid (Below.step HBwt_7.out bt_12)
      clear bt_12
      cases t_12 with
      | false =>
        replace H := let_hid H
        obtain ⟨t_13, ht_13, H⟩ := H
        obtain rfl : t_13 = true := ht_13.symm
        replace H := app_hid H
        replace H := ite_t H
        cases ret_hid H
        go_wp2_with fail
        go_ret2
        exact ⟨rfl, HBwt_12.out⟩
      | true =>
        replace H := let_hid H
        obtain ⟨t_13, ht_13, H⟩ := H
        obtain rfl : t_13 = false := ht_13.symm
        replace H := app_hid H
        replace H := ite_f H
        go_wp2_with fail
        go_loopg [9, 8] (list.length) (fun m_ v9_ v8_ wr => ∃ (k0 : Nat) (best_8l0 : Int), k0 + m_ = list.length ∧ v9_ = .int .i64 (k0 : Int) ∧ v8_ = .int .i64 best_8l0 ∧ Hid (cntK (l0 list hue light) m_ k0 (best_8l0) (e0 list) = some (r0, r1)) ∧ Hid (Below w.heap.size w wr))
        case atStart => exact ⟨0, _, by omega, rfl, rfl, H, HBwt_12⟩
        case round =>
          obtain ⟨k0, best_8l0, hkm0, rfl, rfl, H, HBwr0⟩ := hrel
          rename World => wr0
          cases gk with
          | zero =>
            obtain rfl : k0 = list.length := by omega
            have hc0 : decide (((list.length : Nat) : Int) < ((list.length : Nat) : Int)) = false := by simp
            replace H := cnt_zero H
            unfold e0 at H
            replace H := let_hid H
            obtain ⟨_, rfl, H⟩ := H
            replace H := let_hid H
            obtain ⟨t_78, ht_78, H⟩ := H
            cases t_78 with
            | false =>
              replace H := ite_f H
              replace H := idx_hid H
              obtain ⟨nt_83, yt_83, et_83, lt_83, gt_83, H⟩ := H
              subst et_83
              have nc_463 : ¬ (nt_83 < 0) := by have := of_decide_eq_false ht_78; omega
              obtain ⟨t_83_name, t_83_hue, t_83_width, t_83_dark, t_83_light⟩ := yt_83
              replace H := unShade_hid H
              obtain ⟨ab_t_83, ao_t_83, zt_83, At_83, z_t_83, ct_83_0, ct_83_1, ct_83_2, ct_83_3, ct_83_4⟩ := Go.Proofs.Ytkinlkmmelkdnaa.OShade.at_ M0.out lt_83
              obtain rfl := Option.some.inj (gt_83.out.symm.trans z_t_83)
              subst At_83
              have ltt_83 := cell_lt ct_83_0
              replace ct_83_0 := cell_below HBwr0.out ct_83_0
              replace ct_83_1 := cell_below HBwr0.out ct_83_1
              replace ct_83_2 := cell_below HBwr0.out ct_83_2
              replace ct_83_3 := cell_below HBwr0.out ct_83_3
              replace ct_83_4 := cell_below HBwr0.out ct_83_4
              clear z_t_83
              have b0t_83 : (0 : Int) ≤ (nt_83 : Int) := by omega
              have b1t_83 : (nt_83 : Int) < ((list.length : Nat) : Int) := by omega
              have b2t_83 : ((nt_83 : Int)).toNat = nt_83 := by omega
              cases ret_hid H
              go_wp2_with fail
              go_ret2
              exact ⟨rfl, HBwr0.out⟩
            | true =>
              replace H := ite_t H
              cases ret_hid H
              go_wp2_with fail
              go_ret2
              exact ⟨rfl, HBwr0.out⟩
          | succ m0 =>
            have hlt0 : k0 < list.length := by omega
            have hc0 : decide ((k0 : Int) < ((list.length : Nat) : Int)) = true := by simp; omega
            replace H := cnt_succ H
            unfold l0 at H
            replace H := let_hid H
            obtain ⟨_, rfl, H⟩ := H
            replace H := idx_hid H
            obtain ⟨nt_25, yt_25, et_25, lt_25, gt_25, H⟩ := H
            obtain rfl : k0 = nt_25 := by omega
            clear et_25
            obtain ⟨t_25_name, t_25_hue, t_25_width, t_25_dark, t_25_light⟩ := yt_25
            replace H := unShade_hid H
            obtain ⟨ab_t_25, ao_t_25, zt_25, At_25, z_t_25, ct_25_0, ct_25_1, ct_25_2, ct_25_3, ct_25_4⟩ := Go.Proofs.Ytkinlkmmelkdnaa.OShade.at_ M0.out lt_25
            obtain rfl := Option.some.inj (gt_25.out.symm.trans z_t_25)
            subst At_25
            have ltt_25 := cell_lt ct_25_0
            replace ct_25_0 := cell_below HBwr0.out ct_25_0
            replace ct_25_1 := cell_below HBwr0.out ct_25_1
            replace ct_25_2 := cell_below HBwr0.out ct_25_2
            replace ct_25_3 := cell_below HBwr0.out ct_25_3
            replace ct_25_4 := cell_below HBwr0.out ct_25_4
            clear z_t_25
            have b0t_25 : (0 : Int) ≤ (k0 : Int) := by omega
            have b1t_25 : (k0 : Int) < ((list.length : Nat) : Int) := by omega
            have b2t_25 : ((k0 : Int)).toNat = k0 := by omega
            replace H := bind_hid H
            obtain ⟨t_29, qt_29, H⟩ := H
            go_wp2_with fail
            go_at_call 115
            refine (Go.Proofs.Ytkinlkmmelkdnaa.GsL7Takes.C ((Go.Proofs.Ytkinlkmmelkdnaa.PShade.Shade.mk t_25_name t_25_hue t_25_width t_25_dark t_25_light)) (hue) (light)  _    qt_29).mono ?_
            rintro e_t_29 wt_29 ⟨rfl, bt_29⟩
            have HBwt_29 := Lib.hid (Below.step HBwr0.out bt_29)
            replace ct_25_0 := cell_below bt_29 ct_25_0
            replace ct_25_1 := cell_below bt_29 ct_25_1
            replace ct_25_2 := cell_below bt_29 ct_25_2
            replace ct_25_3 := cell_below bt_29 ct_25_3
            replace ct_25_4 := cell_below bt_29 ct_25_4
            clear bt_29
            cases t_29 with
            | false =>
              replace H := let_hid H
              obtain ⟨t_30, ht_30, H⟩ := H
              obtain rfl : t_30 = true := ht_30.symm
              replace H := ite_t H
              replace H := app_hid H
              go_wp2_with fail
              go_roundg m0
              case measure => omega
              case rel => exact ⟨k0 + 1, _, by omega, by go_num, rfl, H, HBwt_29⟩
            | true =>
              replace H := let_hid H
              obtain ⟨t_30, ht_30, H⟩ := H
              obtain rfl : t_30 = false := ht_30.symm
              replace H := ite_f H
              replace H := let_hid H
              obtain ⟨t_32, ht_32, H⟩ := H
              cases t_32 with
              | false =>
                replace H := ite_f H
                go_wp2_with fail
                have Hct_25_0 := Lib.hid ct_25_0
                replace ct_25_0 := cell_regrown ct_25_0
                have Hct_25_1 := Lib.hid ct_25_1
                replace ct_25_1 := cell_regrown ct_25_1
                have Hct_25_2 := Lib.hid ct_25_2
                replace ct_25_2 := cell_regrown ct_25_2
                have Hct_25_3 := Lib.hid ct_25_3
                replace ct_25_3 := cell_regrown ct_25_3
                have Hct_25_4 := Lib.hid ct_25_4
                replace ct_25_4 := cell_regrown ct_25_4
                replace H := idx_hid H
                obtain ⟨nt_37, yt_37, et_37, lt_37, gt_37, H⟩ := H
                obtain rfl : k0 = nt_37 := by omega
                clear et_37
                obtain rfl := Option.some.inj (gt_25.out.symm.trans gt_37.out)
                clear gt_37 lt_37
                replace H := unShade_hid H
                replace H := bind_hid H
                obtain ⟨t_41, qt_41, H⟩ := H
                have nt_41 : ∀ d os, Calls Try.prog 116 #[.int .i64 t_25_hue, .int .i64 hue] (Go.Sort.grow (redrawn wt_29 d) os) fun e w'' => e = .returned (.int .i64 t_41) ∧ ∃ p : Regrown, w'' = Go.Sort.grow (redrawn wt_29 p.d) p.os := fun d os => Calls.regrown_of (Go.Proofs.Ytkinlkmmelkdnaa.GsL7Far.C (t_25_hue) (hue)  _    qt_41)
                replace H := idx_hid H
                obtain ⟨nt_44, yt_44, et_44, lt_44, gt_44, H⟩ := H
                subst et_44
                have nc_464 : ¬ (nt_44 < 0) := by have := of_decide_eq_false ht_32; omega
                obtain ⟨t_44_name, t_44_hue, t_44_width, t_44_dark, t_44_light⟩ := yt_44
                replace H := unShade_hid H
                obtain ⟨ab_t_44, ao_t_44, zt_44, At_44, z_t_44, ct_44_0, ct_44_1, ct_44_2, ct_44_3, ct_44_4⟩ := Go.Proofs.Ytkinlkmmelkdnaa.OShade.at_ M0.out lt_44
                obtain rfl := Option.some.inj (gt_44.out.symm.trans z_t_44)
                simp only [Option.some.injEq, Addr.mk.injEq] at At_44
                obtain ⟨rfl, rfl, _⟩ := At_44
                have ltt_44 := cell_lt ct_44_0
                replace ct_44_0 := cell_below HBwt_29.out ct_44_0
                replace ct_44_1 := cell_below HBwt_29.out ct_44_1
                replace ct_44_2 := cell_below HBwt_29.out ct_44_2
                replace ct_44_3 := cell_below HBwt_29.out ct_44_3
                replace ct_44_4 := cell_below HBwt_29.out ct_44_4
                clear z_t_44
                have b0t_44 : (0 : Int) ≤ (nt_44 : Int) := by omega
                have b1t_44 : (nt_44 : Int) < ((list.length : Nat) : Int) := by omega
                have b2t_44 : ((nt_44 : Int)).toNat = nt_44 := by omega
                have Hct_44_0 := Lib.hid ct_44_0
                replace ct_44_0 := cell_regrown ct_44_0
                have Hct_44_1 := Lib.hid ct_44_1
                replace ct_44_1 := cell_regrown ct_44_1
                have Hct_44_2 := Lib.hid ct_44_2
                replace ct_44_2 := cell_regrown ct_44_2
                have Hct_44_3 := Lib.hid ct_44_3
                replace ct_44_3 := cell_regrown ct_44_3
                have Hct_44_4 := Lib.hid ct_44_4
                replace ct_44_4 := cell_regrown ct_44_4
                replace H := bind_hid H
                obtain ⟨t_48, qt_48, H⟩ := H
                have nt_48 : ∀ d os, Calls Try.prog 116 #[.int .i64 t_44_hue, .int .i64 hue] (Go.Sort.grow (redrawn wt_29 d) os) fun e w'' => e = .returned (.int .i64 t_48) ∧ ∃ p : Regrown, w'' = Go.Sort.grow (redrawn wt_29 p.d) p.os := fun d os => Calls.regrown_of (Go.Proofs.Ytkinlkmmelkdnaa.GsL7Far.C (t_44_hue) (hue)  _    qt_48)
                refine wp_region_quiet_below (by kernel_rfl) (by kernel_rfl) ?_
                repeat (go_big_quiet_step (first | (go_at_call 116; with_reducible exact nt_41 _ _) | (go_at_call 116; with_reducible exact nt_48 _ _) | (go_at_call 116; exact nt_41 _ _) | (go_at_call 116; exact nt_48 _ _)))
                refine wpQuiet_nil ?_
                intro Y10 hY10
                replace hY10 := below_class hY10
                clear nt_41 nt_48
                replace ct_25_0 := Hct_25_0.out
                clear Hct_25_0
                replace ct_25_1 := Hct_25_1.out
                clear Hct_25_1
                replace ct_25_2 := Hct_25_2.out
                clear Hct_25_2
                replace ct_25_3 := Hct_25_3.out
                clear Hct_25_3
                replace ct_25_4 := Hct_25_4.out
                clear Hct_25_4
                replace ct_44_0 := Hct_44_0.out
                clear Hct_44_0
                replace ct_44_1 := Hct_44_1.out
                clear Hct_44_1
                replace ct_44_2 := Hct_44_2.out
                clear Hct_44_2
                replace ct_44_3 := Hct_44_3.out
                clear Hct_44_3
                replace ct_44_4 := Hct_44_4.out
                clear Hct_44_4
                have HBY10 := Lib.hid (Below.step HBwt_29.out hY10)
                replace ct_25_0 := cell_below hY10 ct_25_0
                replace ct_25_1 := cell_below hY10 ct_25_1
                replace ct_25_2 := cell_below hY10 ct_25_2
                replace ct_25_3 := cell_below hY10 ct_25_3
                replace ct_25_4 := cell_below hY10 ct_25_4
                replace ct_44_0 := cell_below hY10 ct_44_0
                replace ct_44_1 := cell_below hY10 ct_44_1
                replace ct_44_2 := cell_below hY10 ct_44_2
                replace ct_44_3 := cell_below hY10 ct_44_3
                replace ct_44_4 := cell_below hY10 ct_44_4
                clear hY10
                go_wp2_with fail
                have Hct_25_0 := Lib.hid ct_25_0
                replace ct_25_0 := cell_regrown ct_25_0
                have Hct_25_1 := Lib.hid ct_25_1
                replace ct_25_1 := cell_regrown ct_25_1
                have Hct_25_2 := Lib.hid ct_25_2
                replace ct_25_2 := cell_regrown ct_25_2
                have Hct_25_3 := Lib.hid ct_25_3
                replace ct_25_3 := cell_regrown ct_25_3
                have Hct_25_4 := Lib.hid ct_25_4
                replace ct_25_4 := cell_regrown ct_25_4
                have Hct_44_0 := Lib.hid ct_44_0
                replace ct_44_0 := cell_regrown ct_44_0
                have Hct_44_1 := Lib.hid ct_44_1
                replace ct_44_1 := cell_regrown ct_44_1
                have Hct_44_2 := Lib.hid ct_44_2
                replace ct_44_2 := cell_regrown ct_44_2
                have Hct_44_3 := Lib.hid ct_44_3
                replace ct_44_3 := cell_regrown ct_44_3
                have Hct_44_4 := Lib.hid ct_44_4
                replace ct_44_4 := cell_regrown ct_44_4
                replace H := let_hid H
                obtain ⟨t_53, ht_53, H⟩ := H
                replace H := join_hid H
                cases t_53 with
                | false =>
                  replace H := ite_f H
                  replace H := let_hid H
                  obtain ⟨t_57, ht_57, H⟩ := H
                  replace H := join_hid H
                  cases t_57 with
                  | false =>
                    replace H := ite_f H
                    replace H := app_hid H
                    replace H := app_hid H
                    refine wp_region_quiet_below (by kernel_rfl) (by kernel_rfl) ?_
                    repeat (go_big_quiet_step (fail))
                    refine wpQuiet_nil ?_
                    intro Y11 hY11
                    replace hY11 := below_class hY11
                    replace ct_25_0 := Hct_25_0.out
                    clear Hct_25_0
                    replace ct_25_1 := Hct_25_1.out
                    clear Hct_25_1
                    replace ct_25_2 := Hct_25_2.out
                    clear Hct_25_2
                    replace ct_25_3 := Hct_25_3.out
                    clear Hct_25_3
                    replace ct_25_4 := Hct_25_4.out
                    clear Hct_25_4
                    replace ct_44_0 := Hct_44_0.out
                    clear Hct_44_0
                    replace ct_44_1 := Hct_44_1.out
                    clear Hct_44_1
                    replace ct_44_2 := Hct_44_2.out
                    clear Hct_44_2
                    replace ct_44_3 := Hct_44_3.out
                    clear Hct_44_3
                    replace ct_44_4 := Hct_44_4.out
                    clear Hct_44_4
                    have HBY11 := Lib.hid (Below.step HBY10.out hY11)
                    replace ct_25_0 := cell_below hY11 ct_25_0
                    replace ct_25_1 := cell_below hY11 ct_25_1
                    replace ct_25_2 := cell_below hY11 ct_25_2
                    replace ct_25_3 := cell_below hY11 ct_25_3
                    replace ct_25_4 := cell_below hY11 ct_25_4
                    replace ct_44_0 := cell_below hY11 ct_44_0
                    replace ct_44_1 := cell_below hY11 ct_44_1
                    replace ct_44_2 := cell_below hY11 ct_44_2
                    replace ct_44_3 := cell_below hY11 ct_44_3
                    replace ct_44_4 := cell_below hY11 ct_44_4
                    clear hY11
                    replace H := ite_f H
                    replace H := app_hid H
                    go_wp2_with fail
                    go_roundg m0
                    case measure => omega
                    case rel => exact ⟨k0 + 1, _, by omega, by go_num, rfl, H, HBY11⟩
                  | true =>
                    replace H := ite_t H
                    replace H := idx_hid H
                    obtain ⟨nt_61, yt_61, et_61, lt_61, gt_61, H⟩ := H
                    obtain rfl : k0 = nt_61 := by omega
                    clear et_61
                    obtain rfl := Option.some.inj (gt_25.out.symm.trans gt_61.out)
                    clear gt_61 lt_61
                    replace H := unShade_hid H
                    replace H := idx_hid H
                    obtain ⟨nt_66, yt_66, et_66, lt_66, gt_66, H⟩ := H
                    obtain rfl : nt_44 = nt_66 := by omega
                    clear et_66
                    obtain rfl := Option.some.inj (gt_44.out.symm.trans gt_66.out)
                    clear gt_66 lt_66
                    replace H := unShade_hid H
                    replace H := let_hid H
                    obtain ⟨t_69, ht_69, H⟩ := H
                    replace H := app_hid H
                    replace H := app_hid H
                    refine wp_region_quiet_below (by kernel_rfl) (by kernel_rfl) ?_
                    repeat (go_big_quiet_step (fail))
                    refine wpQuiet_nil ?_
                    intro Y11 hY11
                    replace hY11 := below_class hY11
                    replace ct_25_0 := Hct_25_0.out
                    clear Hct_25_0
                    replace ct_25_1 := Hct_25_1.out
                    clear Hct_25_1
                    replace ct_25_2 := Hct_25_2.out
                    clear Hct_25_2
                    replace ct_25_3 := Hct_25_3.out
                    clear Hct_25_3
                    replace ct_25_4 := Hct_25_4.out
                    clear Hct_25_4
                    replace ct_44_0 := Hct_44_0.out
                    clear Hct_44_0
                    replace ct_44_1 := Hct_44_1.out
                    clear Hct_44_1
                    replace ct_44_2 := Hct_44_2.out
                    clear Hct_44_2
                    replace ct_44_3 := Hct_44_3.out
                    clear Hct_44_3
                    replace ct_44_4 := Hct_44_4.out
                    clear Hct_44_4
                    have HBY11 := Lib.hid (Below.step HBY10.out hY11)
                    replace ct_25_0 := cell_below hY11 ct_25_0
                    replace ct_25_1 := cell_below hY11 ct_25_1
                    replace ct_25_2 := cell_below hY11 ct_25_2
                    replace ct_25_3 := cell_below hY11 ct_25_3
                    replace ct_25_4 := cell_below hY11 ct_25_4
                    replace ct_44_0 := cell_below hY11 ct_44_0
                    replace ct_44_1 := cell_below hY11 ct_44_1
                    replace ct_44_2 := cell_below hY11 ct_44_2
                    replace ct_44_3 := cell_below hY11 ct_44_3
                    replace ct_44_4 := cell_below hY11 ct_44_4
                    clear hY11
                    cases t_69 with
                    | false =>
                      replace H := ite_f H
                      replace H := app_hid H
                      go_wp2_with fail
                      go_roundg m0
                      case measure => omega
                      case rel => exact ⟨k0 + 1, _, by omega, by go_num, rfl, H, HBY11⟩
                    | true =>
                      replace H := ite_t H
                      replace H := app_hid H
                      go_wp2_with fail
                      go_roundg m0
                      case measure => omega
                      case rel => exact ⟨k0 + 1, _, by omega, by go_num, rfl, H, HBY11⟩
                | true =>
                  replace H := ite_t H
                  replace H := app_hid H
                  refine wp_region_quiet_below (by kernel_rfl) (by kernel_rfl) ?_
                  repeat (go_big_quiet_step (fail))
                  refine wpQuiet_nil ?_
                  intro Y11 hY11
                  replace hY11 := below_class hY11
                  replace ct_25_0 := Hct_25_0.out
                  clear Hct_25_0
                  replace ct_25_1 := Hct_25_1.out
                  clear Hct_25_1
                  replace ct_25_2 := Hct_25_2.out
                  clear Hct_25_2
                  replace ct_25_3 := Hct_25_3.out
                  clear Hct_25_3
                  replace ct_25_4 := Hct_25_4.out
                  clear Hct_25_4
                  replace ct_44_0 := Hct_44_0.out
                  clear Hct_44_0
                  replace ct_44_1 := Hct_44_1.out
                  clear Hct_44_1
                  replace ct_44_2 := Hct_44_2.out
                  clear Hct_44_2
                  replace ct_44_3 := Hct_44_3.out
                  clear Hct_44_3
                  replace ct_44_4 := Hct_44_4.out
                  clear Hct_44_4
                  have HBY11 := Lib.hid (Below.step HBY10.out hY11)
                  replace ct_25_0 := cell_below hY11 ct_25_0
                  replace ct_25_1 := cell_below hY11 ct_25_1
                  replace ct_25_2 := cell_below hY11 ct_25_2
                  replace ct_25_3 := cell_below hY11 ct_25_3
                  replace ct_25_4 := cell_below hY11 ct_25_4
                  replace ct_44_0 := cell_below hY11 ct_44_0
                  replace ct_44_1 := cell_below hY11 ct_44_1
                  replace ct_44_2 := cell_below hY11 ct_44_2
                  replace ct_44_3 := cell_below hY11 ct_44_3
                  replace ct_44_4 := cell_below hY11 ct_44_4
                  clear hY11
                  replace H := ite_t H
                  replace H := app_hid H
                  go_wp2_with fail
                  go_roundg m0
                  case measure => omega
                  case rel => exact ⟨k0 + 1, _, by omega, by go_num, rfl, H, HBY11⟩
              | true =>
                replace H := ite_t H
                replace H := app_hid H
                go_wp2_with fail
                go_roundg m0
                case measure => omega
                case rel => exact ⟨k0 + 1, _, by omega, by go_num, rfl, H, HBwt_29⟩
end Go.Proofs.Ytkinlkmmelkdnaa.GsBestShade

/- loop.example/g01062/impl.ShadesOf$1 as a plain function, and the contract of the program's: where the plain one has an answer, the program has it. Conditions: slices read as lists. -/
namespace Go.Proofs.Ytkinlkmmelkdnaa.GiShadesOf1
set_option linter.unusedVariables false
set_option linter.unusedSimpArgs false
open Go.RowKit
open Go.Proofs.Ytkinlkmmelkdnaa.Rowed Go.Proofs.Ytkinlkmmelkdnaa.Turn Go.Proofs.Ytkinlkmmelkdnaa.Aid Go.Proofs.Ytkinlkmmelkdnaa.GoP Go.Proofs.Ytkinlkmmelkdnaa.GoM

def P (x : Go.Proofs.Ytkinlkmmelkdnaa.PShade.Shade) (hq0 : Int) (hq1 : Int) : Option (Bool) :=
  unShade x fun (x_name : ByteArray) (x_hue : Int) (x_width : Int) (x_dark : Int) (x_light : Int) =>
  Option.bind (Go.Proofs.Ytkinlkmmelkdnaa.GiTakesIn.P (Go.Proofs.Ytkinlkmmelkdnaa.PShade.Shade.mk x_name x_hue x_width x_dark x_light) hq0 hq1) fun (t_5 : Bool) =>
  some t_5

set_option maxRecDepth 100000 in
set_option maxHeartbeats 2000000 in
theorem C (x : Go.Proofs.Ytkinlkmmelkdnaa.PShade.Shade) (hq0 : Int) (hq1 : Int)  (gq0 : Nat) (gq1 : Nat) (w : World)  (Fq0h : Hid (w.cell? ⟨gq0, 0, none⟩ = some (.int .i64 hq0))) (Fq1h : Hid (w.cell? ⟨gq1, 0, none⟩ = some (.int .i64 hq1))) {r : Bool} (H : Hid (P x hq0 hq1 = some r)) :
    Calls Try.prog 119 #[x.val, .pointer (some ⟨gq0, 0, none⟩), .pointer (some ⟨gq1, 0, none⟩)] w (Gives (.bool r) w) := by
  have HB := Lib.hid (Below.refl w.heap.size w)
  unfold P at H
  obtain ⟨x_name, x_hue, x_width, x_dark, x_light⟩ := x
  replace H := unShade_hid H
  unfold Go.Proofs.Ytkinlkmmelkdnaa.PShade.Shade.val
  have Fq0 := Fq0h.out
  have Fq1 := Fq1h.out
  go_enter Try.func119, Try.ntmps119
  obtain ⟨w_x_0, hw_x_0⟩ : ∃ x, w.alloc (.cells #[.string x_name, .int .i64 x_hue, .int .i64 x_width, .int .i64 x_dark, .int .i64 x_light] 74) = x := ⟨_, rfl⟩
  have bw_x_0 : Below w.heap.size w w_x_0 := by rw [← hw_x_0]; exact (Below.refl _ _).alloc (Nat.le_refl _) _
  have HBw_x_0 := Lib.hid (Below.step HB.out bw_x_0)
  have Fq0__465 := cell_below bw_x_0 Fq0
  have Fq1__466 := cell_below bw_x_0 Fq1
  clear bw_x_0
  have kx_0_0 : w_x_0.cell? ⟨w.heap.size, 0, none⟩ = some (.string x_name) := by rw [← hw_x_0]; exact box_new _ _ _ 0 _ rfl
  have kx_0_1 : w_x_0.cell? ⟨w.heap.size, 1, none⟩ = some (.int .i64 x_hue) := by rw [← hw_x_0]; exact box_new _ _ _ 1 _ rfl
  have kx_0_2 : w_x_0.cell? ⟨w.heap.size, 2, none⟩ = some (.int .i64 x_width) := by rw [← hw_x_0]; exact box_new _ _ _ 2 _ rfl
  have kx_0_3 : w_x_0.cell? ⟨w.heap.size, 3, none⟩ = some (.int .i64 x_dark) := by rw [← hw_x_0]; exact box_new _ _ _ 3 _ rfl
  have kx_0_4 : w_x_0.cell? ⟨w.heap.size, 4, none⟩ = some (.int .i64 x_light) := by rw [← hw_x_0]; exact box_new _ _ _ 4 _ rfl
  replace H := bind_hid H
  obtain ⟨t_5, qt_5, H⟩ := H
  go_wp2_with fail
  clear Fq0 Fq1
  go_at_call 107
  refine (Go.Proofs.Ytkinlkmmelkdnaa.GiTakesIn.C ((Go.Proofs.Ytkinlkmmelkdnaa.PShade.Shade.mk x_name x_hue x_width x_dark x_light)) (hq0) (hq1)  _    qt_5).mono ?_
  rintro e_t_5 wt_5 ⟨rfl, bt_5⟩
  have HBwt_5 := Lib.hid (Below.step HBw_x_0.out bt_5)
  replace Fq0__465 := cell_below bt_5 Fq0__465
  replace Fq1__466 := cell_below bt_5 Fq1__466
  replace kx_0_0 := cell_below bt_5 kx_0_0
  replace kx_0_1 := cell_below bt_5 kx_0_1
  replace kx_0_2 := cell_below bt_5 kx_0_2
  replace kx_0_3 := cell_below bt_5 kx_0_3
  replace kx_0_4 := cell_below bt_5 kx_0_4
  clear bt_5
  obtain rfl := ret_hid H
  go_wp2_with fail
  go_ret
  exact ⟨rfl, HBwt_5.out⟩
end Go.Proofs.Ytkinlkmmelkdnaa.GiShadesOf1

/- loop.example/g01062/impl.keysWhere[loop.example/g01062/impl.Shade,string] as a plain function, and the contract of the program's: where the plain one has an answer, the program has it. Conditions: slices read as lists. -/
namespace Go.Proofs.Ytkinlkmmelkdnaa.GiKeysWhereShadeStringiNameOfShadeiShadesOf1
set_option linter.unusedVariables false
set_option linter.unusedSimpArgs false
open Go.RowKit
open Go.Proofs.Ytkinlkmmelkdnaa.Rowed Go.Proofs.Ytkinlkmmelkdnaa.Turn Go.Proofs.Ytkinlkmmelkdnaa.Aid Go.Proofs.Ytkinlkmmelkdnaa.GoP Go.Proofs.Ytkinlkmmelkdnaa.GoM

def l0 (list : (List Go.Proofs.Ytkinlkmmelkdnaa.PShade.Shade)) (hf2_0 : Int) (hf2_1 : Int) (k0 : Nat) (s : (List ByteArray)) (nx0 bk0 : (List ByteArray) → Option ((List ByteArray))) : Option ((List ByteArray)) :=
  letK s fun keys_7l0 =>
  Option.bind (idx list (k0 : Int)) fun (yt_7 : Go.Proofs.Ytkinlkmmelkdnaa.PShade.Shade) =>
  unShade yt_7 fun (t_7_name : ByteArray) (t_7_hue : Int) (t_7_width : Int) (t_7_dark : Int) (t_7_light : Int) =>
  Option.bind (Go.Proofs.Ytkinlkmmelkdnaa.GiShadesOf1.P (Go.Proofs.Ytkinlkmmelkdnaa.PShade.Shade.mk t_7_name t_7_hue t_7_width t_7_dark t_7_light) hf2_0 hf2_1) fun (t_13 : Bool) =>
  iteK t_13
  (Option.bind (Go.Proofs.Ytkinlkmmelkdnaa.GiNameOfShade.P (Go.Proofs.Ytkinlkmmelkdnaa.PShade.Shade.mk t_7_name t_7_hue t_7_width t_7_dark t_7_light)) fun (t_17 : ByteArray) =>
  guardK (keys_7l0.length ≤ 1099511627776) <|
  letK (keys_7l0 ++ [t_17]) fun (t_19 : (List ByteArray)) =>
  appK nx0 (t_19))
  (appK nx0 (keys_7l0))

def e0  (s : (List ByteArray)) : Option ((List ByteArray)) :=
  letK s fun keys_7l0 =>
  some keys_7l0

def P (list : (List Go.Proofs.Ytkinlkmmelkdnaa.PShade.Shade)) (hf2_0 : Int) (hf2_1 : Int) : Option ((List ByteArray)) :=
  cntK (l0 list hf2_0 hf2_1) (list.length) 0 (([] : List ByteArray)) (e0 )

set_option maxRecDepth 100000 in
set_option maxHeartbeats 2000000 in
theorem C (list : (List Go.Proofs.Ytkinlkmmelkdnaa.PShade.Shade)) (hf2_0 : Int) (hf2_1 : Int) (A0 : Option Addr) (c0 : Nat) (gf2_0 : Nat) (gf2_1 : Nat) (w : World) (M0 : Hid (Cells w 5 A0 list.length (Go.Proofs.Ytkinlkmmelkdnaa.PShade.flat list))) (N0 : Hid (list.length ≤ 9223372036854775807)) (Ff2_0h : Hid (w.cell? ⟨gf2_0, 0, none⟩ = some (.int .i64 hf2_0))) (Ff2_1h : Hid (w.cell? ⟨gf2_1, 0, none⟩ = some (.int .i64 hf2_1))) {r : (List ByteArray)} (H : Hid (P list hf2_0 hf2_1 = some r)) :
    Calls Try.prog 117 #[.slice A0 list.length c0, .func (.func 118) #[] #[], .func (.func 119) #[] #[.pointer (some ⟨gf2_0, 0, none⟩), .pointer (some ⟨gf2_1, 0, none⟩)]] w (fun e w' => ∃ A_r c_r, e = .returned (.slice A_r r.length c_r) ∧ w'.ownsRow w.heap.size 9 1 (.slice A_r r.length c_r) r.length (r.map Value.string) ∧ Below w.heap.size w w') := by
  have HB := Lib.hid (Below.refl w.heap.size w)
  unfold P at H
  have N0o := N0.out
  have Ff2_0 := Ff2_0h.out
  have Ff2_1 := Ff2_1h.out
  obtain ⟨i0_9, hi_9, hz0_9, hz1_9, hz2_9⟩ := Aid.info_parts (P := Try.prog) (T := 9) (z := .string ByteArray.empty) (s := 1) (b := 16) (by kernel_rfl)
  go_enter Try.func117, Try.ntmps117
  obtain ⟨w_t_1, hw_t_1⟩ : ∃ x, w.alloc (.cells #[] 9) = x := ⟨_, rfl⟩
  have bw_t_1 : Below w.heap.size w w_t_1 := by rw [← hw_t_1]; exact (Below.refl _ _).alloc (Nat.le_refl _) _
  have Ot_1 : Hid (w_t_1.ownsRow w.heap.size 9 1 (.slice (some ⟨w.heap.size, 0, none⟩) 0 0) 0 []) := Lib.hid (by rw [← hw_t_1]; exact own_empty HB.out.size)
  have HBw_t_1 := Lib.hid (Below.step HB.out bw_t_1)
  have Ff2_0__467 := cell_below bw_t_1 Ff2_0
  have Ff2_1__468 := cell_below bw_t_1 Ff2_1
  clear bw_t_1
  go_wp2_with fail
  clear Ff2_0 Ff2_1
  go_loopg [13, 7] (list.length) (fun m_ v13_ v7_ wr => ∃ (k0 : Nat) (keys_7l0 : (List ByteArray)) (Akeys_7l0 : Option Addr) (ckeys_7l0 : Nat), k0 + m_ = list.length ∧ v13_ = .int .i64 (k0 : Int) ∧ v7_ = .slice Akeys_7l0 keys_7l0.length ckeys_7l0 ∧ Hid (cntK (l0 list hf2_0 hf2_1) m_ k0 (keys_7l0) (e0 ) = some r) ∧ Hid (Below w.heap.size w wr) ∧ wr.cell? ⟨gf2_0, 0, none⟩ = some (.int .i64 hf2_0) ∧ wr.cell? ⟨gf2_1, 0, none⟩ = some (.int .i64 hf2_1) ∧ Hid (wr.ownsRow w.heap.size 9 1 (.slice Akeys_7l0 keys_7l0.length ckeys_7l0) keys_7l0.length (keys_7l0.map Value.string)))
  case atStart => exact ⟨0, _, _, _, by omega, rfl, rfl, H, HBw_t_1, Ff2_0__467, Ff2_1__468, Ot_1⟩
  case round =>
    obtain ⟨k0, keys_7l0, Akeys_7l0, ckeys_7l0, hkm0, rfl, rfl, H, HBwr0, Ff2_0__467, Ff2_1__468, Okeys_7l0⟩ := hrel
    rename World => wr0
    cases gk with
    | zero =>
      obtain rfl : k0 = list.length := by omega
      have hc0 : decide (((list.length : Nat) : Int) < ((list.length : Nat) : Int)) = false := by simp
      replace H := cnt_zero H
      unfold e0 at H
      replace H := let_hid H
      obtain ⟨_, rfl, H⟩ := H
      obtain rfl := ret_hid H
      go_wp2_with fail
      go_ret
      exact ⟨Akeys_7l0, ckeys_7l0, rfl, Okeys_7l0.out, HBwr0.out⟩
    | succ m0 =>
      have hlt0 : k0 < list.length := by omega
      have hc0 : decide ((k0 : Int) < ((list.length : Nat) : Int)) = true := by simp; omega
      replace H := cnt_succ H
      unfold l0 at H
      replace H := let_hid H
      obtain ⟨_, rfl, H⟩ := H
      replace H := idx_hid H
      obtain ⟨nt_7, yt_7, et_7, lt_7, gt_7, H⟩ := H
      obtain rfl : k0 = nt_7 := by omega
      clear et_7
      obtain ⟨t_7_name, t_7_hue, t_7_width, t_7_dark, t_7_light⟩ := yt_7
      replace H := unShade_hid H
      obtain ⟨ab_t_7, ao_t_7, zt_7, At_7, z_t_7, ct_7_0, ct_7_1, ct_7_2, ct_7_3, ct_7_4⟩ := Go.Proofs.Ytkinlkmmelkdnaa.OShade.at_ M0.out lt_7
      obtain rfl := Option.some.inj (gt_7.out.symm.trans z_t_7)
      subst At_7
      have ltt_7 := cell_lt ct_7_0
      replace ct_7_0 := cell_below HBwr0.out ct_7_0
      replace ct_7_1 := cell_below HBwr0.out ct_7_1
      replace ct_7_2 := cell_below HBwr0.out ct_7_2
      replace ct_7_3 := cell_below HBwr0.out ct_7_3
      replace ct_7_4 := cell_below HBwr0.out ct_7_4
      clear z_t_7
      have b0t_7 : (0 : Int) ≤ (k0 : Int) := by omega
      have b1t_7 : (k0 : Int) < ((list.length : Nat) : Int) := by omega
      have b2t_7 : ((k0 : Int)).toNat = k0 := by omega
      obtain ⟨w_e_9, hw_e_9⟩ : ∃ x, wr0.alloc (.cells #[.string t_7_name, .int .i64 t_7_hue, .int .i64 t_7_width, .int .i64 t_7_dark, .int .i64 t_7_light] 74) = x := ⟨_, rfl⟩
      have bw_e_9 : Below wr0.heap.size wr0 w_e_9 := by rw [← hw_e_9]; exact (Below.refl _ _).alloc (Nat.le_refl _) _
      have De_9_keys_7l0 := Lib.hid (apart_fresh Okeys_7l0.out)
      have HBw_e_9 := Lib.hid (Below.step HBwr0.out bw_e_9)
      have Ff2_0__469 := cell_below bw_e_9 Ff2_0__467
      have Ff2_1__470 := cell_below bw_e_9 Ff2_1__468
      have ct_7_0__471 := cell_below bw_e_9 ct_7_0
      have ct_7_1__472 := cell_below bw_e_9 ct_7_1
      have ct_7_2__473 := cell_below bw_e_9 ct_7_2
      have ct_7_3__474 := cell_below bw_e_9 ct_7_3
      have ct_7_4__475 := cell_below bw_e_9 ct_7_4
      replace Okeys_7l0 := Lib.hid (own_below Okeys_7l0.out bw_e_9)
      clear bw_e_9
      have ke_9_0 : w_e_9.cell? ⟨wr0.heap.size, 0, none⟩ = some (.string t_7_name) := by rw [← hw_e_9]; exact box_new _ _ _ 0 _ rfl
      have ke_9_1 : w_e_9.cell? ⟨wr0.heap.size, 1, none⟩ = some (.int .i64 t_7_hue) := by rw [← hw_e_9]; exact box_new _ _ _ 1 _ rfl
      have ke_9_2 : w_e_9.cell? ⟨wr0.heap.size, 2, none⟩ = some (.int .i64 t_7_width) := by rw [← hw_e_9]; exact box_new _ _ _ 2 _ rfl
      have ke_9_3 : w_e_9.cell? ⟨wr0.heap.size, 3, none⟩ = some (.int .i64 t_7_dark) := by rw [← hw_e_9]; exact box_new _ _ _ 3 _ rfl
      have ke_9_4 : w_e_9.cell? ⟨wr0.heap.size, 4, none⟩ = some (.int .i64 t_7_light) := by rw [← hw_e_9]; exact box_new _ _ _ 4 _ rfl
      replace H := bind_hid H
      obtain ⟨t_13, qt_13, H⟩ := H
      go_wp2_with fail
      clear Ff2_0__467 Ff2_1__468 ct_7_0 ct_7_1 ct_7_2 ct_7_3 ct_7_4
      go_at_call 119
      refine (Go.Proofs.Ytkinlkmmelkdnaa.GiShadesOf1.C ((Go.Proofs.Ytkinlkmmelkdnaa.PShade.Shade.mk t_7_name t_7_hue t_7_width t_7_dark t_7_light)) (hf2_0) (hf2_1) (gf2_0) (gf2_1) _   (Lib.hid Ff2_0__469) (Lib.hid Ff2_1__470) qt_13).mono ?_
      rintro e_t_13 wt_13 ⟨rfl, bt_13⟩
      have HBwt_13 := Lib.hid (Below.step HBw_e_9.out bt_13)
      replace Ff2_0__469 := cell_below bt_13 Ff2_0__469
      replace Ff2_1__470 := cell_below bt_13 Ff2_1__470
      replace ct_7_0__471 := cell_below bt_13 ct_7_0__471
      replace ct_7_1__472 := cell_below bt_13 ct_7_1__472
      replace ct_7_2__473 := cell_below bt_13 ct_7_2__473
      replace ct_7_3__474 := cell_below bt_13 ct_7_3__474
      replace ct_7_4__475 := cell_below bt_13 ct_7_4__475
      replace ke_9_0 := cell_below bt_13 ke_9_0
      replace ke_9_1 := cell_below bt_13 ke_9_1
      replace ke_9_2 := cell_below bt_13 ke_9_2
      replace ke_9_3 := cell_below bt_13 ke_9_3
      replace ke_9_4 := cell_below bt_13 ke_9_4
      replace Okeys_7l0 := Lib.hid (own_below Okeys_7l0.out bt_13)
      clear bt_13
      cases t_13 with
      | false =>
        replace H := ite_f H
        replace H := app_hid H
        go_wp2_with fail
        go_roundg m0
        case measure => omega
        case rel => exact ⟨k0 + 1, _, _, _, by omega, by go_num, rfl, H, HBwt_13, Ff2_0__469, Ff2_1__470, Okeys_7l0⟩
      | true =>
        replace H := ite_t H
        replace H := bind_hid H
        obtain ⟨t_17, qt_17, H⟩ := H
        go_wp2_with fail
        go_at_call 118
        refine (Go.Proofs.Ytkinlkmmelkdnaa.GiNameOfShade.C ((Go.Proofs.Ytkinlkmmelkdnaa.PShade.Shade.mk t_7_name t_7_hue t_7_width t_7_dark t_7_light))  _    qt_17).mono ?_
        rintro e_t_17 wt_17 ⟨rfl, bt_17⟩
        have HBwt_17 := Lib.hid (Below.step HBwt_13.out bt_17)
        replace Ff2_0__469 := cell_below bt_17 Ff2_0__469
        replace Ff2_1__470 := cell_below bt_17 Ff2_1__470
        replace ct_7_0__471 := cell_below bt_17 ct_7_0__471
        replace ct_7_1__472 := cell_below bt_17 ct_7_1__472
        replace ct_7_2__473 := cell_below bt_17 ct_7_2__473
        replace ct_7_3__474 := cell_below bt_17 ct_7_3__474
        replace ct_7_4__475 := cell_below bt_17 ct_7_4__475
        replace ke_9_0 := cell_below bt_17 ke_9_0
        replace ke_9_1 := cell_below bt_17 ke_9_1
        replace ke_9_2 := cell_below bt_17 ke_9_2
        replace ke_9_3 := cell_below bt_17 ke_9_3
        replace ke_9_4 := cell_below bt_17 ke_9_4
        replace Okeys_7l0 := Lib.hid (own_below Okeys_7l0.out bt_17)
        clear bt_17
        obtain ⟨w_t_18, hw_t_18⟩ : ∃ x, wt_17.alloc (.cells #[.string t_17] 9) = x := ⟨_, rfl⟩
        have bw_t_18 : Below wt_17.heap.size wt_17 w_t_18 := by rw [← hw_t_18]; exact (Below.refl _ _).alloc (Nat.le_refl _) _
        have HBw_t_18 := Lib.hid (Below.step HBwt_17.out bw_t_18)
        have Ff2_0__476 := cell_below bw_t_18 Ff2_0__469
        have Ff2_1__477 := cell_below bw_t_18 Ff2_1__470
        have ct_7_0__478 := cell_below bw_t_18 ct_7_0__471
        have ct_7_1__479 := cell_below bw_t_18 ct_7_1__472
        have ct_7_2__480 := cell_below bw_t_18 ct_7_2__473
        have ct_7_3__481 := cell_below bw_t_18 ct_7_3__474
        have ct_7_4__482 := cell_below bw_t_18 ct_7_4__475
        have ke_9_0__483 := cell_below bw_t_18 ke_9_0
        have ke_9_1__484 := cell_below bw_t_18 ke_9_1
        have ke_9_2__485 := cell_below bw_t_18 ke_9_2
        have ke_9_3__486 := cell_below bw_t_18 ke_9_3
        have ke_9_4__487 := cell_below bw_t_18 ke_9_4
        replace Okeys_7l0 := Lib.hid (own_below Okeys_7l0.out bw_t_18)
        clear bw_t_18
        replace H := guard_hid H
        obtain ⟨hlt_19, H⟩ := H
        replace H := let_hid H
        obtain ⟨t_19, ht_19, H⟩ := H
        have hht_19 := Lib.hid ht_19
        clear ht_19
        have hst_19 := HBw_t_18.out.size
        go_wp2_with (at_builtin; refine wpList_append_own_at _ rfl _ _ 68 rfl w.heap.size 9 i0_9 (.string ByteArray.empty) 1 16 Try.underlying68 hi_9 hz0_9 hz1_9 hz2_9 rfl (by decide) _ _ _ rfl Okeys_7l0.out ⟨wt_17.heap.size, 0, none⟩ 1 1 [.string t_17] rfl rfl (news_new hw_t_18) (one_cells rfl) (by unfold maxLen; omega) (by omega) hst_19 ?_; intro vt_19 wt_19 ot_19 gt_19 zt_19 yt_19; clear zt_19; obtain ⟨qt_19, ct_19, rfl, pt_19⟩ := own_push hht_19.out (by simp) rfl ot_19; have Pt_19 := Lib.hid pt_19; have Yt_19 := Lib.hid yt_19; have Gt_19 := Lib.hid gt_19; clear ot_19 gt_19 pt_19 yt_19; refine stop_in ?_)
        refine stop_out ?_
        have HBwt_19 := Lib.hid (HBw_t_18.out.grown Gt_19.out hst_19 (fun q hq => (Okeys_7l0.out.lt q hq).1))
        clear hst_19
        have Dt_19_e_9 : Hid (Apart (some ⟨qt_19, 0, none⟩) _) := Lib.hid (apart_app (Apart.symm De_9_keys_7l0.out) (fun a_ ha_ => by cases ha_; exact cell_lt ke_9_0__483) Yt_19.out)
        replace Ff2_0__476 := cell_below HBwt_19.out Ff2_0h.out
        replace Ff2_1__477 := cell_below HBwt_19.out Ff2_1h.out
        replace ct_7_0__478 := cell_other ct_7_0__478 Gt_19.out (apart_old Okeys_7l0.out ltt_7)
        replace ct_7_1__479 := cell_other ct_7_1__479 Gt_19.out (apart_old Okeys_7l0.out ltt_7)
        replace ct_7_2__480 := cell_other ct_7_2__480 Gt_19.out (apart_old Okeys_7l0.out ltt_7)
        replace ct_7_3__481 := cell_other ct_7_3__481 Gt_19.out (apart_old Okeys_7l0.out ltt_7)
        replace ct_7_4__482 := cell_other ct_7_4__482 Gt_19.out (apart_old Okeys_7l0.out ltt_7)
        replace ke_9_0__483 := cell_other ke_9_0__483 Gt_19.out (Apart.symm De_9_keys_7l0.out)
        replace ke_9_1__484 := cell_other ke_9_1__484 Gt_19.out (Apart.symm De_9_keys_7l0.out)
        replace ke_9_2__485 := cell_other ke_9_2__485 Gt_19.out (Apart.symm De_9_keys_7l0.out)
        replace ke_9_3__486 := cell_other ke_9_3__486 Gt_19.out (Apart.symm De_9_keys_7l0.out)
        replace ke_9_4__487 := cell_other ke_9_4__487 Gt_19.out (Apart.symm De_9_keys_7l0.out)
        clear Ff2_0__469 Ff2_1__470 ct_7_0__471 ct_7_1__472 ct_7_2__473 ct_7_3__474 ct_7_4__475 ke_9_0 ke_9_1 ke_9_2 ke_9_3 ke_9_4
        clear Okeys_7l0 Yt_19 Gt_19
        replace H := app_hid H
        go_wp2_with fail
        go_roundg m0
        case measure => omega
        case rel => exact ⟨k0 + 1, _, _, _, by omega, by go_num, rfl, H, HBwt_19, Ff2_0__476, Ff2_1__477, Pt_19⟩
end Go.Proofs.Ytkinlkmmelkdnaa.GiKeysWhereShadeStringiNameOfShadeiShadesOf1

/- loop.example/g01062/impl.ShadesOf as a plain function, and the contract of the program's: where the plain one has an answer, the program has it. Conditions: slices read as lists. -/
namespace Go.Proofs.Ytkinlkmmelkdnaa.GiShadesOf
set_option linter.unusedVariables false
set_option linter.unusedSimpArgs false
open Go.RowKit
open Go.Proofs.Ytkinlkmmelkdnaa.Rowed Go.Proofs.Ytkinlkmmelkdnaa.Turn Go.Proofs.Ytkinlkmmelkdnaa.Aid Go.Proofs.Ytkinlkmmelkdnaa.GoP Go.Proofs.Ytkinlkmmelkdnaa.GoM

def P (list : (List Go.Proofs.Ytkinlkmmelkdnaa.PShade.Shade)) (hue : Int) (light : Int) : Option ((List ByteArray) × Bool) :=
  Option.bind (Go.Proofs.Ytkinlkmmelkdnaa.GiCanLook.P list hue light) fun (t_7 : Bool) =>
  letK (!t_7) fun (t_8 : Bool) =>
  iteK t_8
  (some (([] : List ByteArray), false))
  (Option.bind (Go.Proofs.Ytkinlkmmelkdnaa.GiKeysWhereShadeStringiNameOfShadeiShadesOf1.P list hue light) fun (t_14 : (List ByteArray)) =>
  some (t_14, true))

set_option maxRecDepth 100000 in
set_option maxHeartbeats 2000000 in
theorem C (list : (List Go.Proofs.Ytkinlkmmelkdnaa.PShade.Shade)) (hue : Int) (light : Int) (A0 : Option Addr) (c0 : Nat)  (w : World) (M0 : Hid (Cells w 5 A0 list.length (Go.Proofs.Ytkinlkmmelkdnaa.PShade.flat list))) (N0 : Hid (list.length ≤ 9223372036854775807))  {r0 : (List ByteArray)} {r1 : Bool} (H : Hid (P list hue light = some (r0, r1))) :
    Calls Try.prog 55 #[.slice A0 list.length c0, .int .i64 hue, .int .i64 light] w (fun e w' => ∃ A_r0 c_r0, e = .returned (.tuple #[.slice A_r0 r0.length c_r0, .bool r1]) ∧ w'.ownsRow w.heap.size 9 1 (.slice A_r0 r0.length c_r0) r0.length (r0.map Value.string) ∧ Below w.heap.size w w') := by
  have HB := Lib.hid (Below.refl w.heap.size w)
  unfold P at H
  have N0o := N0.out
  go_enter Try.func55, Try.ntmps55
  obtain ⟨w_hue_0, hw_hue_0⟩ : ∃ x, w.alloc (.cells #[.int .i64 hue] 3) = x := ⟨_, rfl⟩
  have bw_hue_0 : Below w.heap.size w w_hue_0 := by rw [← hw_hue_0]; exact (Below.refl _ _).alloc (Nat.le_refl _) _
  have HBw_hue_0 := Lib.hid (Below.step HB.out bw_hue_0)
  clear bw_hue_0
  have khue_0_0 : w_hue_0.cell? ⟨w.heap.size, 0, none⟩ = some (.int .i64 hue) := by rw [← hw_hue_0]; exact box_new _ _ _ 0 _ rfl
  obtain ⟨w_light_1, hw_light_1⟩ : ∃ x, w_hue_0.alloc (.cells #[.int .i64 light] 3) = x := ⟨_, rfl⟩
  have bw_light_1 : Below w_hue_0.heap.size w_hue_0 w_light_1 := by rw [← hw_light_1]; exact (Below.refl _ _).alloc (Nat.le_refl _) _
  have HBw_light_1 := Lib.hid (Below.step HBw_hue_0.out bw_light_1)
  have khue_0_0__488 := cell_below bw_light_1 khue_0_0
  clear bw_light_1
  have klight_1_0 : w_light_1.cell? ⟨w_hue_0.heap.size, 0, none⟩ = some (.int .i64 light) := by rw [← hw_light_1]; exact box_new _ _ _ 0 _ rfl
  replace H := bind_hid H
  obtain ⟨t_7, qt_7, H⟩ := H
  go_wp2_with fail
  clear khue_0_0
  go_at_call 103
  refine (Go.Proofs.Ytkinlkmmelkdnaa.GiCanLook.C (list) (hue) (light) A0 c0 _   (Lib.hid (Cells.below M0.out HBw_light_1.out)) N0 qt_7).mono ?_
  rintro e_t_7 wt_7 ⟨rfl, bt_7⟩
  have HBwt_7 := Lib.hid (Below.step HBw_light_1.out bt_7)
  replace khue_0_0__488 := cell_below bt_7 khue_0_0__488
  replace klight_1_0 := cell_below bt_7 klight_1_0
  clear bt_7
  cases t_7 with
  | false =>
    replace H := let_hid H
    obtain ⟨t_8, ht_8, H⟩ := H
    obtain rfl : t_8 = true := ht_8.symm
    replace H := ite_t H
    obtain ⟨w_t_9, hw_t_9⟩ : ∃ x, wt_7.alloc (.cells #[] 9) = x := ⟨_, rfl⟩
    have bw_t_9 : Below wt_7.heap.size wt_7 w_t_9 := by rw [← hw_t_9]; exact (Below.refl _ _).alloc (Nat.le_refl _) _
    have Ot_9 : Hid (w_t_9.ownsRow w.heap.size 9 1 (.slice (some ⟨wt_7.heap.size, 0, none⟩) 0 0) 0 []) := Lib.hid (by rw [← hw_t_9]; exact own_empty HBwt_7.out.size)
    have Dt_9_hue_0 := Lib.hid (apart_box khue_0_0__488)
    have Dt_9_light_1 := Lib.hid (apart_box klight_1_0)
    have HBw_t_9 := Lib.hid (Below.step HBwt_7.out bw_t_9)
    have khue_0_0__489 := cell_below bw_t_9 khue_0_0__488
    have klight_1_0__490 := cell_below bw_t_9 klight_1_0
    clear bw_t_9
    cases ret_hid H
    go_wp2_with fail
    go_ret2
    exact ⟨(some ⟨wt_7.heap.size, 0, none⟩), 0, rfl, Ot_9.out, HBw_t_9.out⟩
  | true =>
    replace H := let_hid H
    obtain ⟨t_8, ht_8, H⟩ := H
    obtain rfl : t_8 = false := ht_8.symm
    replace H := ite_f H
    replace H := bind_hid H
    obtain ⟨t_14, qt_14, H⟩ := H
    go_wp2_with fail
    go_at_call 117
    refine (Go.Proofs.Ytkinlkmmelkdnaa.GiKeysWhereShadeStringiNameOfShadeiShadesOf1.C (list) (hue) (light) A0 c0 (w.heap.size) (w_hue_0.heap.size) _   (Lib.hid (Cells.below M0.out HBwt_7.out)) N0 (Lib.hid khue_0_0__488) (Lib.hid klight_1_0) qt_14).mono ?_
    rintro e_t_14 wt_14 ⟨At_14, ct_14, rfl, ot_14, bt_14⟩
    have Dt_14_hue_0 := Lib.hid (apart_callbox ot_14 khue_0_0__488)
    have Dt_14_light_1 := Lib.hid (apart_callbox ot_14 klight_1_0)
    have Ot_14 := Lib.hid (own_lower ot_14 HBwt_7.out.size)
    clear ot_14
    have HBwt_14 := Lib.hid (Below.step HBwt_7.out bt_14)
    replace khue_0_0__488 := cell_below bt_14 khue_0_0__488
    replace klight_1_0 := cell_below bt_14 klight_1_0
    clear bt_14
    cases ret_hid H
    go_wp2_with fail
    go_ret2
    exact ⟨At_14, ct_14, rfl, Ot_14.out, HBwt_14.out⟩
end Go.Proofs.Ytkinlkmmelkdnaa.GiShadesOf

/- loop.example/g01062/spec.ShadesOf as a plain function, and the contract of the program's: where the plain one has an answer, the program has it. Conditions: slices read as lists. -/
namespace Go.Proofs.Ytkinlkmmelkdnaa.GsShadesOf
set_option linter.unusedVariables false
set_option linter.unusedSimpArgs false
open Go.RowKit
open Go.Proofs.Ytkinlkmmelkdnaa.Rowed Go.Proofs.Ytkinlkmmelkdnaa.Turn Go.Proofs.Ytkinlkmmelkdnaa.Aid Go.Proofs.Ytkinlkmmelkdnaa.GoP Go.Proofs.Ytkinlkmmelkdnaa.GoM

def l0 (list : (List Go.Proofs.Ytkinlkmmelkdnaa.PShade.Shade)) (hue : Int) (light : Int) (k0 : Nat) (s : (List ByteArray)) (nx0 bk0 : (List ByteArray) → Option ((List ByteArray) × Bool)) : Option ((List ByteArray) × Bool) :=
  letK s fun out_8l0 =>
  Option.bind (idx list (k0 : Int)) fun (yt_27 : Go.Proofs.Ytkinlkmmelkdnaa.PShade.Shade) =>
  unShade yt_27 fun (t_27_name : ByteArray) (t_27_hue : Int) (t_27_width : Int) (t_27_dark : Int) (t_27_light : Int) =>
  Option.bind (Go.Proofs.Ytkinlkmmelkdnaa.GsL7Takes.P (Go.Proofs.Ytkinlkmmelkdnaa.PShade.Shade.mk t_27_name t_27_hue t_27_width t_27_dark t_27_light) hue light) fun (t_31 : Bool) =>
  iteK t_31
  (Option.bind (idx list (k0 : Int)) fun (yt_35 : Go.Proofs.Ytkinlkmmelkdnaa.PShade.Shade) =>
  unShade yt_35 fun (t_35_name : ByteArray) (t_35_hue : Int) (t_35_width : Int) (t_35_dark : Int) (t_35_light : Int) =>
  guardK (out_8l0.length ≤ 1099511627776) <|
  letK (out_8l0 ++ [t_35_name]) fun (t_39 : (List ByteArray)) =>
  appK nx0 (t_39))
  (appK nx0 (out_8l0))

def e0  (s : (List ByteArray)) : Option ((List ByteArray) × Bool) :=
  letK s fun out_8l0 =>
  some (out_8l0, true)

def P (list : (List Go.Proofs.Ytkinlkmmelkdnaa.PShade.Shade)) (hue : Int) (light : Int) : Option ((List ByteArray) × Bool) :=
  Option.bind (Go.Proofs.Ytkinlkmmelkdnaa.GsL7Good.P list) fun (t_5 : Bool) =>
  letK (!t_5) fun (t_6 : Bool) =>
  joinK (fun (t_11 : Bool) =>
  joinK (fun (t_16 : Bool) =>
  iteK t_16
  (some (([] : List ByteArray), false))
  (cntK (l0 list hue light) (list.length) 0 (([] : List ByteArray)) (e0 ))) fun jt_16 => iteK t_11 (appK jt_16 true) (Option.bind (Go.Proofs.Ytkinlkmmelkdnaa.GsL1In.P light 0 100) fun (t_14 : Bool) =>
  letK (!t_14) fun (t_15 : Bool) =>
  appK jt_16 t_15)) fun jt_11 => iteK t_6 (appK jt_11 true) (Option.bind (Go.Proofs.Ytkinlkmmelkdnaa.GsL7Hue.P hue) fun (t_9 : Bool) =>
  letK (!t_9) fun (t_10 : Bool) =>
  appK jt_11 t_10)

set_option maxRecDepth 100000 in
set_option maxHeartbeats 2000000 in
theorem C (list : (List Go.Proofs.Ytkinlkmmelkdnaa.PShade.Shade)) (hue : Int) (light : Int) (A0 : Option Addr) (c0 : Nat)  (w : World) (M0 : Hid (Cells w 5 A0 list.length (Go.Proofs.Ytkinlkmmelkdnaa.PShade.flat list))) (N0 : Hid (list.length ≤ 9223372036854775807))  {r0 : (List ByteArray)} {r1 : Bool} (H : Hid (P list hue light = some (r0, r1))) :
    Calls Try.prog 56 #[.slice A0 list.length c0, .int .i64 hue, .int .i64 light] w (fun e w' => ∃ A_r0 c_r0, e = .returned (.tuple #[.slice A_r0 r0.length c_r0, .bool r1]) ∧ w'.ownsRow w.heap.size 9 1 (.slice A_r0 r0.length c_r0) r0.length (r0.map Value.string) ∧ Below w.heap.size w w') := by
  have HB := Lib.hid (Below.refl w.heap.size w)
  unfold P at H
  have N0o := N0.out
  obtain ⟨i0_9, hi_9, hz0_9, hz1_9, hz2_9⟩ := Aid.info_parts (P := Try.prog) (T := 9) (z := .string ByteArray.empty) (s := 1) (b := 16) (by kernel_rfl)
  go_enter Try.func56, Try.ntmps56
  obtain ⟨w_t_2, hw_t_2⟩ : ∃ x, w.alloc (.cells #[] 9) = x := ⟨_, rfl⟩
  have bw_t_2 : Below w.heap.size w w_t_2 := by rw [← hw_t_2]; exact (Below.refl _ _).alloc (Nat.le_refl _) _
  have Ot_2 : Hid (w_t_2.ownsRow w.heap.size 9 1 (.slice (some ⟨w.heap.size, 0, none⟩) 0 0) 0 []) := Lib.hid (by rw [← hw_t_2]; exact own_empty HB.out.size)
  have HBw_t_2 := Lib.hid (Below.step HB.out bw_t_2)
  clear bw_t_2
  replace H := bind_hid H
  obtain ⟨t_5, qt_5, H⟩ := H
  go_wp2_with fail
  go_at_call 113
  refine (Go.Proofs.Ytkinlkmmelkdnaa.GsL7Good.C (list) A0 c0 _   (Lib.hid (Cells.below M0.out HBw_t_2.out)) N0 qt_5).mono ?_
  rintro e_t_5 wt_5 ⟨rfl, bt_5⟩
  have HBwt_5 := Lib.hid (Below.step HBw_t_2.out bt_5)
  replace Ot_2 := Lib.hid (own_below Ot_2.out bt_5)
  clear bt_5
  cases t_5 with
  | false =>
    replace H := let_hid H
    obtain ⟨t_6, ht_6, H⟩ := H
    obtain rfl : t_6 = true := ht_6.symm
    replace H := join_hid H
    replace H := ite_t H
    replace H := app_hid H
    replace H := join_hid H
    replace H := ite_t H
    replace H := app_hid H
    replace H := ite_t H
    cases ret_hid H
    go_wp2_with fail
    go_ret2
    exact ⟨(some ⟨w.heap.size, 0, none⟩), 0, rfl, Ot_2.out, HBwt_5.out⟩
  | true =>
    replace H := let_hid H
    obtain ⟨t_6, ht_6, H⟩ := H
    obtain rfl : t_6 = false := ht_6.symm
    replace H := join_hid H
    replace H := ite_f H
    replace H := bind_hid H
    obtain ⟨t_9, qt_9, H⟩ := H
    go_wp2_with fail
    go_at_call 114
    refine (Go.Proofs.Ytkinlkmmelkdnaa.GsL7Hue.C (hue)  _    qt_9).mono ?_
    rintro e_t_9 wt_9 ⟨rfl, bt_9⟩
    have HBwt_9 := Lib.hid (Below.step HBwt_5.out bt_9)
    replace Ot_2 := Lib.hid (own_below Ot_2.out bt_9)
    clear bt_9
    cases t_9 with
    | false =>
      replace H := let_hid H
      obtain ⟨t_10, ht_10, H⟩ := H
      obtain rfl : t_10 = true := ht_10.symm
      replace H := app_hid H
      replace H := join_hid H
      replace H := ite_t H
      replace H := app_hid H
      replace H := ite_t H
      cases ret_hid H
      go_wp2_with fail
      go_ret2
      exact ⟨(some ⟨w.heap.size, 0, none⟩), 0, rfl, Ot_2.out, HBwt_9.out⟩
    | true =>
      replace H := let_hid H
      obtain ⟨t_10, ht_10, H⟩ := H
      obtain rfl : t_10 = false := ht_10.symm
      replace H := app_hid H
      replace H := join_hid H
      replace H := ite_f H
      replace H := bind_hid H
      obtain ⟨t_14, qt_14, H⟩ := H
      go_wp2_with fail
      go_at_call 88
      refine (Go.Proofs.Ytkinlkmmelkdnaa.GsL1In.C (light) (0) (100)  _    qt_14).mono ?_
      rintro e_t_14 wt_14 ⟨rfl, bt_14⟩
      have HBwt_14 := Lib.hid (Below.step HBwt_9.out bt_14)
      replace Ot_2 := Lib.hid (own_below Ot_2.out bt_14)
      clear bt_14
      cases t_14 with
      | false =>
        replace H := let_hid H
        obtain ⟨t_15, ht_15, H⟩ := H
        obtain rfl : t_15 = true := ht_15.symm
        replace H := app_hid H
        replace H := ite_t H
        cases ret_hid H
        go_wp2_with fail
        go_ret2
        exact ⟨(some ⟨w.heap.size, 0, none⟩), 0, rfl, Ot_2.out, HBwt_14.out⟩
      | true =>
        replace H := let_hid H
        obtain ⟨t_15, ht_15, H⟩ := H
        obtain rfl : t_15 = false := ht_15.symm
        replace H := app_hid H
        replace H := ite_f H
        go_wp2_with fail
        go_loopg [9, 8] (list.length) (fun m_ v9_ v8_ wr => ∃ (k0 : Nat) (out_8l0 : (List ByteArray)) (Aout_8l0 : Option Addr) (cout_8l0 : Nat), k0 + m_ = list.length ∧ v9_ = .int .i64 (k0 : Int) ∧ v8_ = .slice Aout_8l0 out_8l0.length cout_8l0 ∧ Hid (cntK (l0 list hue light) m_ k0 (out_8l0) (e0 ) = some (r0, r1)) ∧ Hid (Below w.heap.size w wr) ∧ Hid (wr.ownsRow w.heap.size 9 1 (.slice Aout_8l0 out_8l0.length cout_8l0) out_8l0.length (out_8l0.map Value.string)))
        case atStart => exact ⟨0, _, _, _, by omega, rfl, rfl, H, HBwt_14, Ot_2⟩
        case round =>
          obtain ⟨k0, out_8l0, Aout_8l0, cout_8l0, hkm0, rfl, rfl, H, HBwr0, Oout_8l0⟩ := hrel
          rename World => wr0
          cases gk with
          | zero =>
            obtain rfl : k0 = list.length := by omega
            have hc0 : decide (((list.length : Nat) : Int) < ((list.length : Nat) : Int)) = false := by simp
            replace H := cnt_zero H
            unfold e0 at H
            replace H := let_hid H
            obtain ⟨_, rfl, H⟩ := H
            cases ret_hid H
            go_wp2_with fail
            go_ret2
            exact ⟨Aout_8l0, cout_8l0, rfl, Oout_8l0.out, HBwr0.out⟩
          | succ m0 =>
            have hlt0 : k0 < list.length := by omega
            have hc0 : decide ((k0 : Int) < ((list.length : Nat) : Int)) = true := by simp; omega
            replace H := cnt_succ H
            unfold l0 at H
            replace H := let_hid H
            obtain ⟨_, rfl, H⟩ := H
            replace H := idx_hid H
            obtain ⟨nt_27, yt_27, et_27, lt_27, gt_27, H⟩ := H
            obtain rfl : k0 = nt_27 := by omega
            clear et_27
            obtain ⟨t_27_name, t_27_hue, t_27_width, t_27_dark, t_27_light⟩ := yt_27
            replace H := unShade_hid H
            obtain ⟨ab_t_27, ao_t_27, zt_27, At_27, z_t_27, ct_27_0, ct_27_1, ct_27_2, ct_27_3, ct_27_4⟩ := Go.Proofs.Ytkinlkmmelkdnaa.OShade.at_ M0.out lt_27
            obtain rfl := Option.some.inj (gt_27.out.symm.trans z_t_27)
            subst At_27
            have ltt_27 := cell_lt ct_27_0
            replace ct_27_0 := cell_below HBwr0.out ct_27_0
            replace ct_27_1 := cell_below HBwr0.out ct_27_1
            replace ct_27_2 := cell_below HBwr0.out ct_27_2
            replace ct_27_3 := cell_below HBwr0.out ct_27_3
            replace ct_27_4 := cell_below HBwr0.out ct_27_4
            clear z_t_27
            have b0t_27 : (0 : Int) ≤ (k0 : Int) := by omega
            have b1t_27 : (k0 : Int) < ((list.length : Nat) : Int) := by omega
            have b2t_27 : ((k0 : Int)).toNat = k0 := by omega
            replace H := bind_hid H
            obtain ⟨t_31, qt_31, H⟩ := H
            go_wp2_with fail
            go_at_call 115
            refine (Go.Proofs.Ytkinlkmmelkdnaa.GsL7Takes.C ((Go.Proofs.Ytkinlkmmelkdnaa.PShade.Shade.mk t_27_name t_27_hue t_27_width t_27_dark t_27_light)) (hue) (light)  _    qt_31).mono ?_
            rintro e_t_31 wt_31 ⟨rfl, bt_31⟩
            have HBwt_31 := Lib.hid (Below.step HBwr0.out bt_31)
            replace ct_27_0 := cell_below bt_31 ct_27_0
            replace ct_27_1 := cell_below bt_31 ct_27_1
            replace ct_27_2 := cell_below bt_31 ct_27_2
            replace ct_27_3 := cell_below bt_31 ct_27_3
            replace ct_27_4 := cell_below bt_31 ct_27_4
            replace Oout_8l0 := Lib.hid (own_below Oout_8l0.out bt_31)
            clear bt_31
            cases t_31 with
            | false =>
              replace H := ite_f H
              replace H := app_hid H
              go_wp2_with fail
              go_roundg m0
              case measure => omega
              case rel => exact ⟨k0 + 1, _, _, _, by omega, by go_num, rfl, H, HBwt_31, Oout_8l0⟩
            | true =>
              replace H := ite_t H
              replace H := idx_hid H
              obtain ⟨nt_35, yt_35, et_35, lt_35, gt_35, H⟩ := H
              obtain rfl : k0 = nt_35 := by omega
              clear et_35
              obtain rfl := Option.some.inj (gt_27.out.symm.trans gt_35.out)
              clear gt_35 lt_35
              replace H := unShade_hid H
              obtain ⟨w_t_38, hw_t_38⟩ : ∃ x, wt_31.alloc (.cells #[.string t_27_name] 9) = x := ⟨_, rfl⟩
              have bw_t_38 : Below wt_31.heap.size wt_31 w_t_38 := by rw [← hw_t_38]; exact (Below.refl _ _).alloc (Nat.le_refl _) _
              have HBw_t_38 := Lib.hid (Below.step HBwt_31.out bw_t_38)
              have ct_27_0__491 := cell_below bw_t_38 ct_27_0
              have ct_27_1__492 := cell_below bw_t_38 ct_27_1
              have ct_27_2__493 := cell_below bw_t_38 ct_27_2
              have ct_27_3__494 := cell_below bw_t_38 ct_27_3
              have ct_27_4__495 := cell_below bw_t_38 ct_27_4
              replace Oout_8l0 := Lib.hid (own_below Oout_8l0.out bw_t_38)
              clear bw_t_38
              replace H := guard_hid H
              obtain ⟨hlt_39, H⟩ := H
              replace H := let_hid H
              obtain ⟨t_39, ht_39, H⟩ := H
              have hht_39 := Lib.hid ht_39
              clear ht_39
              have hst_39 := HBw_t_38.out.size
              go_wp2_with (at_builtin; refine wpList_append_own_at _ rfl _ _ 68 rfl w.heap.size 9 i0_9 (.string ByteArray.empty) 1 16 Try.underlying68 hi_9 hz0_9 hz1_9 hz2_9 rfl (by decide) _ _ _ rfl Oout_8l0.out ⟨wt_31.heap.size, 0, none⟩ 1 1 [.string t_27_name] rfl rfl (news_new hw_t_38) (one_cells rfl) (by unfold maxLen; omega) (by omega) hst_39 ?_; intro vt_39 wt_39 ot_39 gt_39 zt_39 yt_39; clear zt_39; obtain ⟨qt_39, ct_39, rfl, pt_39⟩ := own_push hht_39.out (by simp) rfl ot_39; have Pt_39 := Lib.hid pt_39; have Yt_39 := Lib.hid yt_39; have Gt_39 := Lib.hid gt_39; clear ot_39 gt_39 pt_39 yt_39; refine stop_in ?_)
              refine stop_out ?_
              have HBwt_39 := Lib.hid (HBw_t_38.out.grown Gt_39.out hst_39 (fun q hq => (Oout_8l0.out.lt q hq).1))
              clear hst_39
              replace ct_27_0__491 := cell_other ct_27_0__491 Gt_39.out (apart_old Oout_8l0.out ltt_27)
              replace ct_27_1__492 := cell_other ct_27_1__492 Gt_39.out (apart_old Oout_8l0.out ltt_27)
              replace ct_27_2__493 := cell_other ct_27_2__493 Gt_39.out (apart_old Oout_8l0.out ltt_27)
              replace ct_27_3__494 := cell_other ct_27_3__494 Gt_39.out (apart_old Oout_8l0.out ltt_27)
              replace ct_27_4__495 := cell_other ct_27_4__495 Gt_39.out (apart_old Oout_8l0.out ltt_27)
              clear ct_27_0 ct_27_1 ct_27_2 ct_27_3 ct_27_4
              clear Oout_8l0 Yt_39 Gt_39
              replace H := app_hid H
              go_wp2_with fail
              go_roundg m0
              case measure => omega
              case rel => exact ⟨k0 + 1, _, _, _, by omega, by go_num, rfl, H, HBwt_39, Pt_39⟩
end Go.Proofs.Ytkinlkmmelkdnaa.GsShadesOf

/- loop.example/g01062/laws.rTexts as a plain function, and the contract of the program's: where the plain one has an answer, the program has it. Conditions: slices read as lists. -/
namespace Go.Proofs.Ytkinlkmmelkdnaa.GlRTexts
set_option linter.unusedVariables false
set_option linter.unusedSimpArgs false
open Go.RowKit
open Go.Proofs.Ytkinlkmmelkdnaa.Rowed Go.Proofs.Ytkinlkmmelkdnaa.Turn Go.Proofs.Ytkinlkmmelkdnaa.Aid Go.Proofs.Ytkinlkmmelkdnaa.GoP Go.Proofs.Ytkinlkmmelkdnaa.GoM

def l0 (a : (List ByteArray)) (b : (List ByteArray)) (k0 : Nat) (s : Unit) (nx0 bk0 : Unit → Option (Bool)) : Option (Bool) :=
  
  Option.bind (idx a (k0 : Int)) fun (yt_14 : ByteArray) =>
  Option.bind (idx b (k0 : Int)) fun (yt_18 : ByteArray) =>
  letK (!(yt_14.toList == yt_18.toList)) fun (t_20 : Bool) =>
  iteK t_20
  (some false)
  (appK nx0 ())

def e0  (s : Unit) : Option (Bool) :=
  
  some true

def P (a : (List ByteArray)) (b : (List ByteArray)) : Option (Bool) :=
  letK ((a.length : Int) != (b.length : Int)) fun (t_5 : Bool) =>
  iteK t_5
  (some false)
  (cntK (l0 a b) (a.length) 0 () (e0 ))

set_option maxRecDepth 100000 in
set_option maxHeartbeats 2000000 in
theorem C (a : (List ByteArray)) (b : (List ByteArray)) (A0 : Option Addr) (c0 : Nat) (A1 : Option Addr) (c1 : Nat)  (w : World) (M0 : Hid (Cells w 1 A0 a.length (a.map Value.string))) (N0 : Hid (a.length ≤ 9223372036854775807)) (M1 : Hid (Cells w 1 A1 b.length (b.map Value.string))) (N1 : Hid (b.length ≤ 9223372036854775807))  {r : Bool} (H : Hid (P a b = some r)) :
    Calls Try.prog 57 #[.slice A0 a.length c0, .slice A1 b.length c1] w (Gives (.bool r) w) := by
  have HB := Lib.hid (Below.refl w.heap.size w)
  unfold P at H
  have N0o := N0.out
  have N1o := N1.out
  go_enter Try.func57, Try.ntmps57
  replace H := let_hid H
  obtain ⟨t_5, ht_5, H⟩ := H
  cases t_5 with
  | false =>
    have Hht_5 : Hid (a.length = b.length) := Lib.hid (by have := bne_eq_false_iff_eq.1 ht_5; omega)
    have nht_5 : (a.length == b.length) = true := beq_iff_eq.2 Hht_5.out
    replace H := ite_f H
    go_wp2_with fail
    go_loopg [5] (a.length) (fun m_ v5_ wr => ∃ (k0 : Nat) , k0 + m_ = a.length ∧ v5_ = .int .i64 (k0 : Int) ∧ Hid (cntK (l0 a b) m_ k0 () (e0 ) = some r) ∧ Hid (Below w.heap.size w wr))
    case atStart => exact ⟨0, by omega, rfl, H, HB⟩
    case round =>
      obtain ⟨k0, hkm0, rfl, H, HBwr0⟩ := hrel
      rename World => wr0
      cases gk with
      | zero =>
        obtain rfl : k0 = a.length := by omega
        have hc0 : decide (((a.length : Nat) : Int) < ((a.length : Nat) : Int)) = false := by simp
        replace H := cnt_zero H
        unfold e0 at H
        obtain rfl := ret_hid H
        go_wp2_with fail
        go_ret
        exact ⟨rfl, HBwr0.out⟩
      | succ m0 =>
        have hlt0 : k0 < a.length := by omega
        have hc0 : decide ((k0 : Int) < ((a.length : Nat) : Int)) = true := by simp; omega
        replace H := cnt_succ H
        unfold l0 at H
        go_wp2_with fail
        replace H := idx_hid H
        obtain ⟨nt_14, yt_14, et_14, lt_14, gt_14, H⟩ := H
        obtain rfl : k0 = nt_14 := by omega
        clear et_14
        obtain ⟨ab_t_14, ao_t_14, zt_14, At_14, z_t_14, ct_14_0⟩ := strs_at M0.out lt_14
        obtain rfl := Option.some.inj (gt_14.out.symm.trans z_t_14)
        subst At_14
        have ltt_14 := cell_lt ct_14_0
        replace ct_14_0 := cell_below HBwr0.out ct_14_0
        clear z_t_14
        have b0t_14 : (0 : Int) ≤ (k0 : Int) := by omega
        have b1t_14 : (k0 : Int) < ((a.length : Nat) : Int) := by omega
        have b2t_14 : ((k0 : Int)).toNat = k0 := by omega
        have Hct_14_0 := Lib.hid ct_14_0
        replace ct_14_0 := cell_regrown ct_14_0
        replace H := idx_hid H
        obtain ⟨nt_18, yt_18, et_18, lt_18, gt_18, H⟩ := H
        obtain rfl : k0 = nt_18 := by omega
        clear et_18
        obtain ⟨ab_t_18, ao_t_18, zt_18, At_18, z_t_18, ct_18_0⟩ := strs_at M1.out lt_18
        obtain rfl := Option.some.inj (gt_18.out.symm.trans z_t_18)
        subst At_18
        have ltt_18 := cell_lt ct_18_0
        replace ct_18_0 := cell_below HBwr0.out ct_18_0
        clear z_t_18
        have b0t_18 : (0 : Int) ≤ (k0 : Int) := by omega
        have b1t_18 : (k0 : Int) < ((b.length : Nat) : Int) := by omega
        have b2t_18 : ((k0 : Int)).toNat = k0 := by omega
        have Hct_18_0 := Lib.hid ct_18_0
        replace ct_18_0 := cell_regrown ct_18_0
        replace H := let_hid H
        obtain ⟨t_20, ht_20, H⟩ := H
        refine wp_region_quiet_below (by kernel_rfl) (by kernel_rfl) ?_
        repeat (go_big_quiet_step (fail))
        refine wpQuiet_nil ?_
        intro Y6 hY6
        replace hY6 := below_class hY6
        replace ct_14_0 := Hct_14_0.out
        clear Hct_14_0
        replace ct_18_0 := Hct_18_0.out
        clear Hct_18_0
        have HBY6 := Lib.hid (Below.step HBwr0.out hY6)
        replace ct_14_0 := cell_below hY6 ct_14_0
        replace ct_18_0 := cell_below hY6 ct_18_0
        clear hY6
        cases t_20 with
        | false =>
          replace H := ite_f H
          replace H := app_hid H
          go_wp2_with fail
          go_roundg m0
          case measure => omega
          case rel => exact ⟨k0 + 1, by omega, by go_num, H, HBY6⟩
        | true =>
          replace H := ite_t H
          obtain rfl := ret_hid H
          go_wp2_with fail
          go_ret
          exact ⟨rfl, HBY6.out⟩
  | true =>
    have nht_5 : ¬ (a.length = b.length) := by have := bne_iff_ne.1 ht_5; omega
    replace H := ite_t H
    obtain rfl := ret_hid H
    go_wp2_with fail
    go_ret
    exact ⟨rfl, HB.out⟩
end Go.Proofs.Ytkinlkmmelkdnaa.GlRTexts

/- loop.example/g01062/laws.rHasText as a plain function, and the contract of the program's: where the plain one has an answer, the program has it. Conditions: slices read as lists. -/
namespace Go.Proofs.Ytkinlkmmelkdnaa.GlRHasText
set_option linter.unusedVariables false
set_option linter.unusedSimpArgs false
open Go.RowKit
open Go.Proofs.Ytkinlkmmelkdnaa.Rowed Go.Proofs.Ytkinlkmmelkdnaa.Turn Go.Proofs.Ytkinlkmmelkdnaa.Aid Go.Proofs.Ytkinlkmmelkdnaa.GoP Go.Proofs.Ytkinlkmmelkdnaa.GoM

def l0 (list : (List ByteArray)) (s_1 : ByteArray) (k0 : Nat) (s : Unit) (nx0 bk0 : Unit → Option (Bool)) : Option (Bool) :=
  
  Option.bind (idx list (k0 : Int)) fun (yt_8 : ByteArray) =>
  letK (yt_8.toList == s_1.toList) fun (t_11 : Bool) =>
  iteK t_11
  (some true)
  (appK nx0 ())

def e0  (s : Unit) : Option (Bool) :=
  
  some false

def P (list : (List ByteArray)) (s_1 : ByteArray) : Option (Bool) :=
  cntK (l0 list s_1) (list.length) 0 () (e0 )

set_option maxRecDepth 100000 in
set_option maxHeartbeats 2000000 in
theorem C (list : (List ByteArray)) (s_1 : ByteArray) (A0 : Option Addr) (c0 : Nat)  (w : World) (M0 : Hid (Cells w 1 A0 list.length (list.map Value.string))) (N0 : Hid (list.length ≤ 9223372036854775807))  {r : Bool} (H : Hid (P list s_1 = some r)) :
    Calls Try.prog 58 #[.slice A0 list.length c0, .string s_1] w (Gives (.bool r) w) := by
  have HB := Lib.hid (Below.refl w.heap.size w)
  unfold P at H
  have N0o := N0.out
  go_enter Try.func58, Try.ntmps58
  go_wp2_with fail
  go_loopg [5] (list.length) (fun m_ v5_ wr => ∃ (k0 : Nat) , k0 + m_ = list.length ∧ v5_ = .int .i64 (k0 : Int) ∧ Hid (cntK (l0 list s_1) m_ k0 () (e0 ) = some r) ∧ Hid (Below w.heap.size w wr))
  case atStart => exact ⟨0, by omega, rfl, H, HB⟩
  case round =>
    obtain ⟨k0, hkm0, rfl, H, HBwr0⟩ := hrel
    rename World => wr0
    cases gk with
    | zero =>
      obtain rfl : k0 = list.length := by omega
      have hc0 : decide (((list.length : Nat) : Int) < ((list.length : Nat) : Int)) = false := by simp
      replace H := cnt_zero H
      unfold e0 at H
      obtain rfl := ret_hid H
      go_wp2_with fail
      go_ret
      exact ⟨rfl, HBwr0.out⟩
    | succ m0 =>
      have hlt0 : k0 < list.length := by omega
      have hc0 : decide ((k0 : Int) < ((list.length : Nat) : Int)) = true := by simp; omega
      replace H := cnt_succ H
      unfold l0 at H
      replace H := idx_hid H
      obtain ⟨nt_8, yt_8, et_8, lt_8, gt_8, H⟩ := H
      obtain rfl : k0 = nt_8 := by omega
      clear et_8
      obtain ⟨ab_t_8, ao_t_8, zt_8, At_8, z_t_8, ct_8_0⟩ := strs_at M0.out lt_8
      obtain rfl := Option.some.inj (gt_8.out.symm.trans z_t_8)
      subst At_8
      have ltt_8 := cell_lt ct_8_0
      replace ct_8_0 := cell_below HBwr0.out ct_8_0
      clear z_t_8
      have b0t_8 : (0 : Int) ≤ (k0 : Int) := by omega
      have b1t_8 : (k0 : Int) < ((list.length : Nat) : Int) := by omega
      have b2t_8 : ((k0 : Int)).toNat = k0 := by omega
      replace H := let_hid H
      obtain ⟨t_11, ht_11, H⟩ := H
      cases t_11 with
      | false =>
        replace H := ite_f H
        replace H := app_hid H
        go_wp2_with fail
        go_roundg m0
        case measure => omega
        case rel => exact ⟨k0 + 1, by omega, by go_num, H, HBwr0⟩
      | true =>
        replace H := ite_t H
        obtain rfl := ret_hid H
        go_wp2_with fail
        go_ret
        exact ⟨rfl, HBwr0.out⟩
end Go.Proofs.Ytkinlkmmelkdnaa.GlRHasText

/- loop.example/g01062/impl.HueDistance as a plain function, and the contract of the program's: where the plain one has an answer, the program has it. Conditions: slices read as lists. -/
namespace Go.Proofs.Ytkinlkmmelkdnaa.GiHueDistance
set_option linter.unusedVariables false
set_option linter.unusedSimpArgs false
open Go.RowKit
open Go.Proofs.Ytkinlkmmelkdnaa.Rowed Go.Proofs.Ytkinlkmmelkdnaa.Turn Go.Proofs.Ytkinlkmmelkdnaa.Aid Go.Proofs.Ytkinlkmmelkdnaa.GoP Go.Proofs.Ytkinlkmmelkdnaa.GoM

def P (a : Int) (b : Int) : Option (Int × Bool) :=
  Option.bind (Go.Proofs.Ytkinlkmmelkdnaa.GiIsHue.P a) fun (t_3 : Bool) =>
  letK (!t_3) fun (t_4 : Bool) =>
  joinK (fun (t_9 : Bool) =>
  iteK t_9
  (some (0, false))
  (Option.bind (Go.Proofs.Ytkinlkmmelkdnaa.GiLoHueDistance.P a b) fun (t_14 : Int) =>
  some (t_14, true))) fun jt_9 => iteK t_4 (appK jt_9 true) (Option.bind (Go.Proofs.Ytkinlkmmelkdnaa.GiIsHue.P b) fun (t_7 : Bool) =>
  letK (!t_7) fun (t_8 : Bool) =>
  appK jt_9 t_8)

set_option maxRecDepth 100000 in
set_option maxHeartbeats 2000000 in
theorem C (a : Int) (b : Int)   (w : World)   {r0 : Int} {r1 : Bool} (H : Hid (P a b = some (r0, r1))) :
    Calls Try.prog 59 #[.int .i64 a, .int .i64 b] w (Gives (.tuple #[.int .i64 r0, .bool r1]) w) := by
  have HB := Lib.hid (Below.refl w.heap.size w)
  unfold P at H
  go_enter Try.func59, Try.ntmps59
  replace H := bind_hid H
  obtain ⟨t_3, qt_3, H⟩ := H
  go_wp2_with fail
  go_at_call 120
  refine (Go.Proofs.Ytkinlkmmelkdnaa.GiIsHue.C (a)  _    qt_3).mono ?_
  rintro e_t_3 wt_3 ⟨rfl, bt_3⟩
  have HBwt_3 := Lib.hid (Below.step HB.out bt_3)
  clear bt_3
  cases t_3 with
  | false =>
    replace H := let_hid H
    obtain ⟨t_4, ht_4, H⟩ := H
    obtain rfl : t_4 = true := ht_4.symm
    replace H := join_hid H
    replace H := ite_t H
    replace H := app_hid H
    replace H := ite_t H
    cases ret_hid H
    go_wp2_with fail
    go_ret2
    exact ⟨rfl, HBwt_3.out⟩
  | true =>
    replace H := let_hid H
    obtain ⟨t_4, ht_4, H⟩ := H
    obtain rfl : t_4 = false := ht_4.symm
    replace H := join_hid H
    replace H := ite_f H
    replace H := bind_hid H
    obtain ⟨t_7, qt_7, H⟩ := H
    go_wp2_with fail
    go_at_call 120
    refine (Go.Proofs.Ytkinlkmmelkdnaa.GiIsHue.C (b)  _    qt_7).mono ?_
    rintro e_t_7 wt_7 ⟨rfl, bt_7⟩
    have HBwt_7 := Lib.hid (Below.step HBwt_3.out bt_7)
    clear bt_7
    cases t_7 with
    | false =>
      replace H := let_hid H
      obtain ⟨t_8, ht_8, H⟩ := H
      obtain rfl : t_8 = true := ht_8.symm
      replace H := app_hid H
      replace H := ite_t H
      cases ret_hid H
      go_wp2_with fail
      go_ret2
      exact ⟨rfl, HBwt_7.out⟩
    | true =>
      replace H := let_hid H
      obtain ⟨t_8, ht_8, H⟩ := H
      obtain rfl : t_8 = false := ht_8.symm
      replace H := app_hid H
      replace H := ite_f H
      replace H := bind_hid H
      obtain ⟨t_14, qt_14, H⟩ := H
      go_wp2_with fail
      go_at_call 112
      refine (Go.Proofs.Ytkinlkmmelkdnaa.GiLoHueDistance.C (a) (b)  _    qt_14).mono ?_
      rintro e_t_14 wt_14 ⟨rfl, bt_14⟩
      have HBwt_14 := Lib.hid (Below.step HBwt_7.out bt_14)
      clear bt_14
      cases ret_hid H
      go_wp2_with fail
      go_ret2
      exact ⟨rfl, HBwt_14.out⟩
end Go.Proofs.Ytkinlkmmelkdnaa.GiHueDistance

/- loop.example/g01062/spec.DrawDoOverlap as a plain function, and the contract of the program's: where the plain one has an answer, the program has it. Conditions: slices read as lists. -/
namespace Go.Proofs.Ytkinlkmmelkdnaa.GsDrawDoOverlap
set_option linter.unusedVariables false
set_option linter.unusedSimpArgs false
open Go.RowKit
open Go.Proofs.Ytkinlkmmelkdnaa.Rowed Go.Proofs.Ytkinlkmmelkdnaa.Turn Go.Proofs.Ytkinlkmmelkdnaa.Aid Go.Proofs.Ytkinlkmmelkdnaa.GoP Go.Proofs.Ytkinlkmmelkdnaa.GoM

def P (tapes : List Int → Go.Proofs.Ytkinlkmmelkdnaa.GoC.Tape) (code : (List Int)) : Option (Go.Proofs.Ytkinlkmmelkdnaa.PShade.Shade × Go.Proofs.Ytkinlkmmelkdnaa.PShade.Shade) :=
  letK (tapes code) fun (t_4 : Go.Proofs.Ytkinlkmmelkdnaa.GoC.Tape) =>
  bind2 (Go.Proofs.Ytkinlkmmelkdnaa.GsL1CurShade7.P t_4 (⟨#[108, 97, 107, 101]⟩ : ByteArray)) fun (t_7 : Go.Proofs.Ytkinlkmmelkdnaa.PShade.Shade) (t_7_tp : Go.Proofs.Ytkinlkmmelkdnaa.GoC.Tape) =>
  unShade t_7 fun (t_7_name : ByteArray) (t_7_hue : Int) (t_7_width : Int) (t_7_dark : Int) (t_7_light : Int) =>
  bind2 (Go.Proofs.Ytkinlkmmelkdnaa.GsL1CurShade7.P t_7_tp (⟨#[114, 111, 115, 101]⟩ : ByteArray)) fun (t_9 : Go.Proofs.Ytkinlkmmelkdnaa.PShade.Shade) (t_9_tp : Go.Proofs.Ytkinlkmmelkdnaa.GoC.Tape) =>
  unShade t_9 fun (t_9_name : ByteArray) (t_9_hue : Int) (t_9_width : Int) (t_9_dark : Int) (t_9_light : Int) =>
  some ((Go.Proofs.Ytkinlkmmelkdnaa.PShade.Shade.mk t_7_name t_7_hue t_7_width t_7_dark t_7_light), (Go.Proofs.Ytkinlkmmelkdnaa.PShade.Shade.mk t_9_name t_9_hue t_9_width t_9_dark t_9_light))

set_option maxRecDepth 100000 in
set_option maxHeartbeats 2000000 in
theorem C (tapes : List Int → Go.Proofs.Ytkinlkmmelkdnaa.GoC.Tape) (code : (List Int)) (A0 : Option Addr) (c0 : Nat)  (w : World) (HE : Hid (Go.Proofs.Ytkinlkmmelkdnaa.GoC.Tells tapes)) (M0 : Hid (Cells w 1 A0 code.length (Go.Proofs.Ytkinlkmmelkdnaa.GoC.u8s code))) (N0 : Hid (code.length ≤ 9223372036854775807)) (V0 : Hid (∀ z ∈ code, 0 ≤ z ∧ z ≤ 255))  {r0 : Go.Proofs.Ytkinlkmmelkdnaa.PShade.Shade} {r1 : Go.Proofs.Ytkinlkmmelkdnaa.PShade.Shade} (H : Hid (P tapes code = some (r0, r1))) :
    Calls Try.prog 60 #[.slice A0 code.length c0] w (Gives (.tuple #[(Go.Proofs.Ytkinlkmmelkdnaa.PShade.Shade.val r0), (Go.Proofs.Ytkinlkmmelkdnaa.PShade.Shade.val r1)]) w) := by
  have HB := Lib.hid (Below.refl w.heap.size w)
  unfold P at H
  have N0o := N0.out
  go_enter Try.func60, Try.ntmps60
  obtain ⟨w_t_0, hw_t_0⟩ : ∃ x, w.alloc (.cells #[.string (⟨#[]⟩ : ByteArray), .int .i64 0, .int .i64 0, .int .i64 0, .int .i64 0] 74) = x := ⟨_, rfl⟩
  have bw_t_0 : Below w.heap.size w w_t_0 := by rw [← hw_t_0]; exact (Below.refl _ _).alloc (Nat.le_refl _) _
  have HBw_t_0 := Lib.hid (Below.step HB.out bw_t_0)
  clear bw_t_0
  have kt_0_0 : w_t_0.cell? ⟨w.heap.size, 0, none⟩ = some (.string (⟨#[]⟩ : ByteArray)) := by rw [← hw_t_0]; exact box_new _ _ _ 0 _ rfl
  have kt_0_1 : w_t_0.cell? ⟨w.heap.size, 1, none⟩ = some (.int .i64 0) := by rw [← hw_t_0]; exact box_new _ _ _ 1 _ rfl
  have kt_0_2 : w_t_0.cell? ⟨w.heap.size, 2, none⟩ = some (.int .i64 0) := by rw [← hw_t_0]; exact box_new _ _ _ 2 _ rfl
  have kt_0_3 : w_t_0.cell? ⟨w.heap.size, 3, none⟩ = some (.int .i64 0) := by rw [← hw_t_0]; exact box_new _ _ _ 3 _ rfl
  have kt_0_4 : w_t_0.cell? ⟨w.heap.size, 4, none⟩ = some (.int .i64 0) := by rw [← hw_t_0]; exact box_new _ _ _ 4 _ rfl
  have Ot_0 : Hid (w_t_0.ownsRow w.heap.size 74 5 (.slice (some ⟨w.heap.size, 0, none⟩) 1 1) 1 [.string (⟨#[]⟩ : ByteArray), .int .i64 0, .int .i64 0, .int .i64 0, .int .i64 0]) := Lib.hid (by rw [← hw_t_0]; exact own_laid (n := 1) HB.out.size rfl rfl (by unfold maxLen; omega))
  obtain ⟨w_t_1, hw_t_1⟩ : ∃ x, w_t_0.alloc (.cells #[.string (⟨#[]⟩ : ByteArray), .int .i64 0, .int .i64 0, .int .i64 0, .int .i64 0] 74) = x := ⟨_, rfl⟩
  have bw_t_1 : Below w_t_0.heap.size w_t_0 w_t_1 := by rw [← hw_t_1]; exact (Below.refl _ _).alloc (Nat.le_refl _) _
  have Dt_1_t_0 := Lib.hid (apart_box kt_0_0)
  have HBw_t_1 := Lib.hid (Below.step HBw_t_0.out bw_t_1)
  have kt_0_0__496 := cell_below bw_t_1 kt_0_0
  have kt_0_1__497 := cell_below bw_t_1 kt_0_1
  have kt_0_2__498 := cell_below bw_t_1 kt_0_2
  have kt_0_3__499 := cell_below bw_t_1 kt_0_3
  have kt_0_4__500 := cell_below bw_t_1 kt_0_4
  replace Ot_0 := Lib.hid (own_below Ot_0.out bw_t_1)
  clear bw_t_1
  have kt_1_0 : w_t_1.cell? ⟨w_t_0.heap.size, 0, none⟩ = some (.string (⟨#[]⟩ : ByteArray)) := by rw [← hw_t_1]; exact box_new _ _ _ 0 _ rfl
  have kt_1_1 : w_t_1.cell? ⟨w_t_0.heap.size, 1, none⟩ = some (.int .i64 0) := by rw [← hw_t_1]; exact box_new _ _ _ 1 _ rfl
  have kt_1_2 : w_t_1.cell? ⟨w_t_0.heap.size, 2, none⟩ = some (.int .i64 0) := by rw [← hw_t_1]; exact box_new _ _ _ 2 _ rfl
  have kt_1_3 : w_t_1.cell? ⟨w_t_0.heap.size, 3, none⟩ = some (.int .i64 0) := by rw [← hw_t_1]; exact box_new _ _ _ 3 _ rfl
  have kt_1_4 : w_t_1.cell? ⟨w_t_0.heap.size, 4, none⟩ = some (.int .i64 0) := by rw [← hw_t_1]; exact box_new _ _ _ 4 _ rfl
  have Ot_1 : Hid (w_t_1.ownsRow w.heap.size 74 5 (.slice (some ⟨w_t_0.heap.size, 0, none⟩) 1 1) 1 [.string (⟨#[]⟩ : ByteArray), .int .i64 0, .int .i64 0, .int .i64 0, .int .i64 0]) := Lib.hid (by rw [← hw_t_1]; exact own_laid (n := 1) HBw_t_0.out.size rfl rfl (by unfold maxLen; omega))
  replace H := let_hid H
  obtain ⟨t_4, ht_4, H⟩ := H
  obtain ⟨w_t_4, hw_t_4⟩ : ∃ x, w_t_1.alloc (.cells #[.slice A0 code.length c0, .int .i64 0, .int .u64 0] 103) = x := ⟨_, rfl⟩
  have bw_t_4 : Below w_t_1.heap.size w_t_1 w_t_4 := by rw [← hw_t_4]; exact (Below.refl _ _).alloc (Nat.le_refl _) _
  have Kt_4 : Hid (Go.Proofs.Ytkinlkmmelkdnaa.GoC.CurIs w_t_4 w.heap.size w_t_1.heap.size A0 c0 t_4) := Lib.hid (by rw [← hw_t_4, ← ht_4]; exact Go.Proofs.Ytkinlkmmelkdnaa.GoC.cur_new HBw_t_1.out.size (Cells.below M0.out HBw_t_1.out) (fun a_ ha_ h0_ => by subst ha_; exact Go.Proofs.Ytkinlkmmelkdnaa.GoC.cells_lt M0.out (by unfold Go.Proofs.Ytkinlkmmelkdnaa.GoC.u8s; rw [List.length_map]; exact h0_)) (HE.out.2.2 code V0.out N0.out))
  have hht_4 := Lib.hid ht_4
  clear ht_4
  have Dt_4_t_0 := Lib.hid (apart_box kt_0_0__496)
  have Dt_4_t_1 := Lib.hid (apart_box kt_1_0)
  have HBw_t_4 := Lib.hid (Below.step HBw_t_1.out bw_t_4)
  have kt_0_0__501 := cell_below bw_t_4 kt_0_0__496
  have kt_0_1__502 := cell_below bw_t_4 kt_0_1__497
  have kt_0_2__503 := cell_below bw_t_4 kt_0_2__498
  have kt_0_3__504 := cell_below bw_t_4 kt_0_3__499
  have kt_0_4__505 := cell_below bw_t_4 kt_0_4__500
  have kt_1_0__506 := cell_below bw_t_4 kt_1_0
  have kt_1_1__507 := cell_below bw_t_4 kt_1_1
  have kt_1_2__508 := cell_below bw_t_4 kt_1_2
  have kt_1_3__509 := cell_below bw_t_4 kt_1_3
  have kt_1_4__510 := cell_below bw_t_4 kt_1_4
  replace Ot_0 := Lib.hid (own_below Ot_0.out bw_t_4)
  replace Ot_1 := Lib.hid (own_below Ot_1.out bw_t_4)
  clear bw_t_4
  replace H := bind2_hid H
  obtain ⟨t_7, t_7_tp, qt_7, H⟩ := H
  obtain ⟨t_7_name, t_7_hue, t_7_width, t_7_dark, t_7_light⟩ := t_7
  replace H := unShade_hid H
  go_wp2_with fail
  clear kt_0_0 kt_0_1 kt_0_2 kt_0_3 kt_0_4 kt_0_0__496 kt_0_1__497 kt_0_2__498 kt_0_3__499 kt_0_4__500 kt_1_0 kt_1_1 kt_1_2 kt_1_3 kt_1_4
  go_at_call 121
  refine (Go.Proofs.Ytkinlkmmelkdnaa.GsL1CurShade7.C (t_4) ((⟨#[108, 97, 107, 101]⟩ : ByteArray)) (w_t_1.heap.size) (A0) (c0) (w.heap.size) _   Kt_4 qt_7).mono ?_
  rintro e_t_7 wt_7 ⟨rfl, kt_7, gt_7⟩
  unfold Go.Proofs.Ytkinlkmmelkdnaa.PShade.Shade.val
  have Kt_7 := Lib.hid kt_7
  have Gt_7 : Hid (w_t_4.grownBy wt_7 (Value.slice (some ⟨w_t_1.heap.size, 0, none⟩) 1 1).ownBlock) := Lib.hid gt_7
  clear kt_7 gt_7
  have HBwt_7 := Lib.hid (Go.Proofs.Ytkinlkmmelkdnaa.GoC.below_cur HBw_t_4.out Gt_7.out HBw_t_4.out.size (Go.Proofs.Ytkinlkmmelkdnaa.GoC.cur_lt Kt_4.out).1)
  replace kt_0_0__501 := cell_other kt_0_0__501 Gt_7.out Dt_4_t_0.out
  replace kt_0_1__502 := cell_other kt_0_1__502 Gt_7.out Dt_4_t_0.out
  replace kt_0_2__503 := cell_other kt_0_2__503 Gt_7.out Dt_4_t_0.out
  replace kt_0_3__504 := cell_other kt_0_3__504 Gt_7.out Dt_4_t_0.out
  replace kt_0_4__505 := cell_other kt_0_4__505 Gt_7.out Dt_4_t_0.out
  replace kt_1_0__506 := cell_other kt_1_0__506 Gt_7.out Dt_4_t_1.out
  replace kt_1_1__507 := cell_other kt_1_1__507 Gt_7.out Dt_4_t_1.out
  replace kt_1_2__508 := cell_other kt_1_2__508 Gt_7.out Dt_4_t_1.out
  replace kt_1_3__509 := cell_other kt_1_3__509 Gt_7.out Dt_4_t_1.out
  replace kt_1_4__510 := cell_other kt_1_4__510 Gt_7.out Dt_4_t_1.out
  replace Ot_0 := Lib.hid (own_other Ot_0.out Gt_7.out Dt_4_t_0.out)
  replace Ot_1 := Lib.hid (own_other Ot_1.out Gt_7.out Dt_4_t_1.out)
  clear Kt_4 Gt_7
  replace H := bind2_hid H
  obtain ⟨t_9, t_9_tp, qt_9, H⟩ := H
  obtain ⟨t_9_name, t_9_hue, t_9_width, t_9_dark, t_9_light⟩ := t_9
  replace H := unShade_hid H
  go_wp2_with fail
  go_at_call 121
  refine (Go.Proofs.Ytkinlkmmelkdnaa.GsL1CurShade7.C (t_7_tp) ((⟨#[114, 111, 115, 101]⟩ : ByteArray)) (w_t_1.heap.size) (A0) (c0) (w.heap.size) _   Kt_7 qt_9).mono ?_
  rintro e_t_9 wt_9 ⟨rfl, kt_9, gt_9⟩
  unfold Go.Proofs.Ytkinlkmmelkdnaa.PShade.Shade.val
  have Kt_9 := Lib.hid kt_9
  have Gt_9 : Hid (wt_7.grownBy wt_9 (Value.slice (some ⟨w_t_1.heap.size, 0, none⟩) 1 1).ownBlock) := Lib.hid gt_9
  clear kt_9 gt_9
  have HBwt_9 := Lib.hid (Go.Proofs.Ytkinlkmmelkdnaa.GoC.below_cur HBwt_7.out Gt_9.out HBwt_7.out.size (Go.Proofs.Ytkinlkmmelkdnaa.GoC.cur_lt Kt_7.out).1)
  replace kt_0_0__501 := cell_other kt_0_0__501 Gt_9.out Dt_4_t_0.out
  replace kt_0_1__502 := cell_other kt_0_1__502 Gt_9.out Dt_4_t_0.out
  replace kt_0_2__503 := cell_other kt_0_2__503 Gt_9.out Dt_4_t_0.out
  replace kt_0_3__504 := cell_other kt_0_3__504 Gt_9.out Dt_4_t_0.out
  replace kt_0_4__505 := cell_other kt_0_4__505 Gt_9.out Dt_4_t_0.out
  replace kt_1_0__506 := cell_other kt_1_0__506 Gt_9.out Dt_4_t_1.out
  replace kt_1_1__507 := cell_other kt_1_1__507 Gt_9.out Dt_4_t_1.out
  replace kt_1_2__508 := cell_other kt_1_2__508 Gt_9.out Dt_4_t_1.out
  replace kt_1_3__509 := cell_other kt_1_3__509 Gt_9.out Dt_4_t_1.out
  replace kt_1_4__510 := cell_other kt_1_4__510 Gt_9.out Dt_4_t_1.out
  replace Ot_0 := Lib.hid (own_other Ot_0.out Gt_9.out Dt_4_t_0.out)
  replace Ot_1 := Lib.hid (own_other Ot_1.out Gt_9.out Dt_4_t_1.out)
  clear Kt_7 Gt_9
  obtain ⟨wb10_10, hwb10_10⟩ : ∃ x, (((((wt_9).setCell ⟨w.heap.size, 0, none⟩ (.string t_7_name)).setCell ⟨w.heap.size, 1, none⟩ (.int .i64 t_7_hue)).setCell ⟨w.heap.size, 2, none⟩ (.int .i64 t_7_width)).setCell ⟨w.heap.size, 3, none⟩ (.int .i64 t_7_dark)).setCell ⟨w.heap.size, 4, none⟩ (.int .i64 t_7_light) = x := ⟨_, rfl⟩
  have z0b10_10 := Ot_0.out.frozenAt 0
  have z1b10_10 := Ot_0.out.frozenAt 1
  have z2b10_10 := Ot_0.out.frozenAt 2
  have z3b10_10 := Ot_0.out.frozenAt 3
  have z4b10_10 := Ot_0.out.frozenAt 4
  have Sb10_10 := Lib.hid (own_stores [(0, .string t_7_name), (1, .int .i64 t_7_hue), (2, .int .i64 t_7_width), (3, .int .i64 t_7_dark), (4, .int .i64 t_7_light)] Ot_0.out)
  have Pb10_10 : Hid (wb10_10.ownsRow w.heap.size 74 5 (.slice (some ⟨w.heap.size, 0, none⟩) 1 1) 1 [.string t_7_name, .int .i64 t_7_hue, .int .i64 t_7_width, .int .i64 t_7_dark, .int .i64 t_7_light]) := Lib.hid (by rw [← hwb10_10]; exact Sb10_10.out.1)
  have Gb10_10 : Hid (wt_9.grownBy wb10_10 (Value.slice (some ⟨w.heap.size, 0, none⟩) 1 1).ownBlock) := Lib.hid (by rw [← hwb10_10]; exact Sb10_10.out.2)
  have HBwb10_10 := Lib.hid (HBwt_9.out.grown Gb10_10.out HBwt_9.out.size (fun q hq => (Ot_0.out.lt q hq).1))
  clear Sb10_10
  have kt_1_0__511 := cell_other kt_1_0__506 Gb10_10.out (Apart.symm Dt_1_t_0.out)
  have kt_1_1__512 := cell_other kt_1_1__507 Gb10_10.out (Apart.symm Dt_1_t_0.out)
  have kt_1_2__513 := cell_other kt_1_2__508 Gb10_10.out (Apart.symm Dt_1_t_0.out)
  have kt_1_3__514 := cell_other kt_1_3__509 Gb10_10.out (Apart.symm Dt_1_t_0.out)
  have kt_1_4__515 := cell_other kt_1_4__510 Gb10_10.out (Apart.symm Dt_1_t_0.out)
  replace Ot_1 := Lib.hid (own_other Ot_1.out Gb10_10.out (Apart.symm Dt_1_t_0.out))
  replace Kt_9 := Lib.hid (Go.Proofs.Ytkinlkmmelkdnaa.GoC.cur_other Kt_9.out Gb10_10.out (Apart.symm Dt_4_t_0.out) (Go.Proofs.Ytkinlkmmelkdnaa.GoC.own_ge Ot_0.out))
  clear Ot_0 Gb10_10
  have kt_0_0__516 : wb10_10.cell? ⟨w.heap.size, 0, none⟩ = some (.string t_7_name) := Pb10_10.out.cells rfl 0 _ rfl
  have kt_0_1__517 : wb10_10.cell? ⟨w.heap.size, 1, none⟩ = some (.int .i64 t_7_hue) := Pb10_10.out.cells rfl 1 _ rfl
  have kt_0_2__518 : wb10_10.cell? ⟨w.heap.size, 2, none⟩ = some (.int .i64 t_7_width) := Pb10_10.out.cells rfl 2 _ rfl
  have kt_0_3__519 : wb10_10.cell? ⟨w.heap.size, 3, none⟩ = some (.int .i64 t_7_dark) := Pb10_10.out.cells rfl 3 _ rfl
  have kt_0_4__520 : wb10_10.cell? ⟨w.heap.size, 4, none⟩ = some (.int .i64 t_7_light) := Pb10_10.out.cells rfl 4 _ rfl
  obtain ⟨wb11_11, hwb11_11⟩ : ∃ x, (((((wb10_10).setCell ⟨w_t_0.heap.size, 0, none⟩ (.string t_9_name)).setCell ⟨w_t_0.heap.size, 1, none⟩ (.int .i64 t_9_hue)).setCell ⟨w_t_0.heap.size, 2, none⟩ (.int .i64 t_9_width)).setCell ⟨w_t_0.heap.size, 3, none⟩ (.int .i64 t_9_dark)).setCell ⟨w_t_0.heap.size, 4, none⟩ (.int .i64 t_9_light) = x := ⟨_, rfl⟩
  have z0b11_11 := Ot_1.out.frozenAt 0
  have z1b11_11 := Ot_1.out.frozenAt 1
  have z2b11_11 := Ot_1.out.frozenAt 2
  have z3b11_11 := Ot_1.out.frozenAt 3
  have z4b11_11 := Ot_1.out.frozenAt 4
  have Sb11_11 := Lib.hid (own_stores [(0, .string t_9_name), (1, .int .i64 t_9_hue), (2, .int .i64 t_9_width), (3, .int .i64 t_9_dark), (4, .int .i64 t_9_light)] Ot_1.out)
  have Pb11_11 : Hid (wb11_11.ownsRow w.heap.size 74 5 (.slice (some ⟨w_t_0.heap.size, 0, none⟩) 1 1) 1 [.string t_9_name, .int .i64 t_9_hue, .int .i64 t_9_width, .int .i64 t_9_dark, .int .i64 t_9_light]) := Lib.hid (by rw [← hwb11_11]; exact Sb11_11.out.1)
  have Gb11_11 : Hid (wb10_10.grownBy wb11_11 (Value.slice (some ⟨w_t_0.heap.size, 0, none⟩) 1 1).ownBlock) := Lib.hid (by rw [← hwb11_11]; exact Sb11_11.out.2)
  have HBwb11_11 := Lib.hid (HBwb10_10.out.grown Gb11_11.out HBwb10_10.out.size (fun q hq => (Ot_1.out.lt q hq).1))
  clear Sb11_11
  have kt_0_0__521 := cell_other kt_0_0__516 Gb11_11.out Dt_1_t_0.out
  have kt_0_1__522 := cell_other kt_0_1__517 Gb11_11.out Dt_1_t_0.out
  have kt_0_2__523 := cell_other kt_0_2__518 Gb11_11.out Dt_1_t_0.out
  have kt_0_3__524 := cell_other kt_0_3__519 Gb11_11.out Dt_1_t_0.out
  have kt_0_4__525 := cell_other kt_0_4__520 Gb11_11.out Dt_1_t_0.out
  replace Pb10_10 := Lib.hid (own_other Pb10_10.out Gb11_11.out Dt_1_t_0.out)
  replace Kt_9 := Lib.hid (Go.Proofs.Ytkinlkmmelkdnaa.GoC.cur_other Kt_9.out Gb11_11.out (Apart.symm Dt_4_t_1.out) (Go.Proofs.Ytkinlkmmelkdnaa.GoC.own_ge Ot_1.out))
  clear Ot_1 Gb11_11
  have kt_1_0__526 : wb11_11.cell? ⟨w_t_0.heap.size, 0, none⟩ = some (.string t_9_name) := Pb11_11.out.cells rfl 0 _ rfl
  have kt_1_1__527 : wb11_11.cell? ⟨w_t_0.heap.size, 1, none⟩ = some (.int .i64 t_9_hue) := Pb11_11.out.cells rfl 1 _ rfl
  have kt_1_2__528 : wb11_11.cell? ⟨w_t_0.heap.size, 2, none⟩ = some (.int .i64 t_9_width) := Pb11_11.out.cells rfl 2 _ rfl
  have kt_1_3__529 : wb11_11.cell? ⟨w_t_0.heap.size, 3, none⟩ = some (.int .i64 t_9_dark) := Pb11_11.out.cells rfl 3 _ rfl
  have kt_1_4__530 : wb11_11.cell? ⟨w_t_0.heap.size, 4, none⟩ = some (.int .i64 t_9_light) := Pb11_11.out.cells rfl 4 _ rfl
  cases ret_hid H
  go_wp2_with fail
  (try simp only [Exit.inBlock, Exit.then])
  refine bodyPost_ret (v := .tuple #[.agg #[.string t_7_name, .int .i64 t_7_hue, .int .i64 t_7_width, .int .i64 t_7_dark, .int .i64 t_7_light], .agg #[.string t_9_name, .int .i64 t_9_hue, .int .i64 t_9_width, .int .i64 t_9_dark, .int .i64 t_9_light]]) ?hr_ ?hd_ ?_
  case hd_ => rfl
  case hr_ => simp [results, Try.results60, kt_0_0__521, kt_0_1__522, kt_0_2__523, kt_0_3__524, kt_0_4__525, kt_1_0__526, kt_1_1__527, kt_1_2__528, kt_1_3__529, kt_1_4__530, go_sem]
  exact ⟨rfl, HBwb11_11.out⟩
end Go.Proofs.Ytkinlkmmelkdnaa.GsDrawDoOverlap

/- loop.example/g01062/impl.overlaps as a plain function, and the contract of the program's: where the plain one has an answer, the program has it. Conditions: slices read as lists. -/
namespace Go.Proofs.Ytkinlkmmelkdnaa.GiOverlaps
set_option linter.unusedVariables false
set_option linter.unusedSimpArgs false
open Go.RowKit
open Go.Proofs.Ytkinlkmmelkdnaa.Rowed Go.Proofs.Ytkinlkmmelkdnaa.Turn Go.Proofs.Ytkinlkmmelkdnaa.Aid Go.Proofs.Ytkinlkmmelkdnaa.GoP Go.Proofs.Ytkinlkmmelkdnaa.GoM

def P (x : Go.Proofs.Ytkinlkmmelkdnaa.PShade.Shade) (y : Go.Proofs.Ytkinlkmmelkdnaa.PShade.Shade) : Option (Bool) :=
  unShade x fun (x_name : ByteArray) (x_hue : Int) (x_width : Int) (x_dark : Int) (x_light : Int) =>
  unShade y fun (y_name : ByteArray) (y_hue : Int) (y_width : Int) (y_dark : Int) (y_light : Int) =>
  Option.bind (Go.Proofs.Ytkinlkmmelkdnaa.GiLoHueDistance.P x_hue y_hue) fun (t_7 : Int) =>
  letK (IntKind.i64.wrap (x_width + y_width)) fun (t_12 : Int) =>
  letK (decide (t_7 ≤ t_12)) fun (t_13 : Bool) =>
  joinK (fun (t_26 : Bool) =>
  some t_26) fun jt_26 => iteK t_13 (letK (max x_dark y_dark) fun (t_19 : Int) =>
  letK (min x_light y_light) fun (t_24 : Int) =>
  letK (decide (t_19 ≤ t_24)) fun (t_25 : Bool) =>
  appK jt_26 t_25) (appK jt_26 false)

set_option maxRecDepth 100000 in
set_option maxHeartbeats 2000000 in
theorem C (x : Go.Proofs.Ytkinlkmmelkdnaa.PShade.Shade) (y : Go.Proofs.Ytkinlkmmelkdnaa.PShade.Shade)   (w : World)   {r : Bool} (H : Hid (P x y = some r)) :
    Calls Try.prog 122 #[x.val, y.val] w (Gives (.bool r) w) := by
  have HB := Lib.hid (Below.refl w.heap.size w)
  unfold P at H
  obtain ⟨x_name, x_hue, x_width, x_dark, x_light⟩ := x
  replace H := unShade_hid H
  obtain ⟨y_name, y_hue, y_width, y_dark, y_light⟩ := y
  replace H := unShade_hid H
  unfold Go.Proofs.Ytkinlkmmelkdnaa.PShade.Shade.val
  go_enter Try.func122, Try.ntmps122
  obtain ⟨w_x_0, hw_x_0⟩ : ∃ x, w.alloc (.cells #[.string x_name, .int .i64 x_hue, .int .i64 x_width, .int .i64 x_dark, .int .i64 x_light] 74) = x := ⟨_, rfl⟩
  have bw_x_0 : Below w.heap.size w w_x_0 := by rw [← hw_x_0]; exact (Below.refl _ _).alloc (Nat.le_refl _) _
  have HBw_x_0 := Lib.hid (Below.step HB.out bw_x_0)
  clear bw_x_0
  have kx_0_0 : w_x_0.cell? ⟨w.heap.size, 0, none⟩ = some (.string x_name) := by rw [← hw_x_0]; exact box_new _ _ _ 0 _ rfl
  have kx_0_1 : w_x_0.cell? ⟨w.heap.size, 1, none⟩ = some (.int .i64 x_hue) := by rw [← hw_x_0]; exact box_new _ _ _ 1 _ rfl
  have kx_0_2 : w_x_0.cell? ⟨w.heap.size, 2, none⟩ = some (.int .i64 x_width) := by rw [← hw_x_0]; exact box_new _ _ _ 2 _ rfl
  have kx_0_3 : w_x_0.cell? ⟨w.heap.size, 3, none⟩ = some (.int .i64 x_dark) := by rw [← hw_x_0]; exact box_new _ _ _ 3 _ rfl
  have kx_0_4 : w_x_0.cell? ⟨w.heap.size, 4, none⟩ = some (.int .i64 x_light) := by rw [← hw_x_0]; exact box_new _ _ _ 4 _ rfl
  obtain ⟨w_y_1, hw_y_1⟩ : ∃ x, w_x_0.alloc (.cells #[.string y_name, .int .i64 y_hue, .int .i64 y_width, .int .i64 y_dark, .int .i64 y_light] 74) = x := ⟨_, rfl⟩
  have bw_y_1 : Below w_x_0.heap.size w_x_0 w_y_1 := by rw [← hw_y_1]; exact (Below.refl _ _).alloc (Nat.le_refl _) _
  have HBw_y_1 := Lib.hid (Below.step HBw_x_0.out bw_y_1)
  have kx_0_0__531 := cell_below bw_y_1 kx_0_0
  have kx_0_1__532 := cell_below bw_y_1 kx_0_1
  have kx_0_2__533 := cell_below bw_y_1 kx_0_2
  have kx_0_3__534 := cell_below bw_y_1 kx_0_3
  have kx_0_4__535 := cell_below bw_y_1 kx_0_4
  clear bw_y_1
  have ky_1_0 : w_y_1.cell? ⟨w_x_0.heap.size, 0, none⟩ = some (.string y_name) := by rw [← hw_y_1]; exact box_new _ _ _ 0 _ rfl
  have ky_1_1 : w_y_1.cell? ⟨w_x_0.heap.size, 1, none⟩ = some (.int .i64 y_hue) := by rw [← hw_y_1]; exact box_new _ _ _ 1 _ rfl
  have ky_1_2 : w_y_1.cell? ⟨w_x_0.heap.size, 2, none⟩ = some (.int .i64 y_width) := by rw [← hw_y_1]; exact box_new _ _ _ 2 _ rfl
  have ky_1_3 : w_y_1.cell? ⟨w_x_0.heap.size, 3, none⟩ = some (.int .i64 y_dark) := by rw [← hw_y_1]; exact box_new _ _ _ 3 _ rfl
  have ky_1_4 : w_y_1.cell? ⟨w_x_0.heap.size, 4, none⟩ = some (.int .i64 y_light) := by rw [← hw_y_1]; exact box_new _ _ _ 4 _ rfl
  go_wp2_with fail
  clear kx_0_0 kx_0_1 kx_0_2 kx_0_3 kx_0_4
  have Hkx_0_0__531 := Lib.hid kx_0_0__531
  replace kx_0_0__531 := cell_regrown kx_0_0__531
  have Hkx_0_1__532 := Lib.hid kx_0_1__532
  replace kx_0_1__532 := cell_regrown kx_0_1__532
  have Hkx_0_2__533 := Lib.hid kx_0_2__533
  replace kx_0_2__533 := cell_regrown kx_0_2__533
  have Hkx_0_3__534 := Lib.hid kx_0_3__534
  replace kx_0_3__534 := cell_regrown kx_0_3__534
  have Hkx_0_4__535 := Lib.hid kx_0_4__535
  replace kx_0_4__535 := cell_regrown kx_0_4__535
  have Hky_1_0 := Lib.hid ky_1_0
  replace ky_1_0 := cell_regrown ky_1_0
  have Hky_1_1 := Lib.hid ky_1_1
  replace ky_1_1 := cell_regrown ky_1_1
  have Hky_1_2 := Lib.hid ky_1_2
  replace ky_1_2 := cell_regrown ky_1_2
  have Hky_1_3 := Lib.hid ky_1_3
  replace ky_1_3 := cell_regrown ky_1_3
  have Hky_1_4 := Lib.hid ky_1_4
  replace ky_1_4 := cell_regrown ky_1_4
  replace H := bind_hid H
  obtain ⟨t_7, qt_7, H⟩ := H
  have nt_7 : ∀ d os, Calls Try.prog 112 #[.int .i64 x_hue, .int .i64 y_hue] (Go.Sort.grow (redrawn w_y_1 d) os) fun e w'' => e = .returned (.int .i64 t_7) ∧ ∃ p : Regrown, w'' = Go.Sort.grow (redrawn w_y_1 p.d) p.os := fun d os => Calls.regrown_of (Go.Proofs.Ytkinlkmmelkdnaa.GiLoHueDistance.C (x_hue) (y_hue)  _    qt_7)
  replace H := let_hid H
  obtain ⟨t_12, ht_12, H⟩ := H
  replace H := let_hid H
  obtain ⟨t_13, ht_13, H⟩ := H
  replace H := join_hid H
  cases t_13 with
  | false =>
    replace H := ite_f H
    replace H := app_hid H
    refine wp_region_quiet_below (by kernel_rfl) (by kernel_rfl) ?_
    repeat (go_big_quiet_step (first | (go_at_call 112; exact nt_7 _ _)))
    refine wpQuiet_nil ?_
    intro Y1 hY1
    replace hY1 := below_class hY1
    clear nt_7
    replace kx_0_0__531 := Hkx_0_0__531.out
    clear Hkx_0_0__531
    replace kx_0_1__532 := Hkx_0_1__532.out
    clear Hkx_0_1__532
    replace kx_0_2__533 := Hkx_0_2__533.out
    clear Hkx_0_2__533
    replace kx_0_3__534 := Hkx_0_3__534.out
    clear Hkx_0_3__534
    replace kx_0_4__535 := Hkx_0_4__535.out
    clear Hkx_0_4__535
    replace ky_1_0 := Hky_1_0.out
    clear Hky_1_0
    replace ky_1_1 := Hky_1_1.out
    clear Hky_1_1
    replace ky_1_2 := Hky_1_2.out
    clear Hky_1_2
    replace ky_1_3 := Hky_1_3.out
    clear Hky_1_3
    replace ky_1_4 := Hky_1_4.out
    clear Hky_1_4
    have HBY1 := Lib.hid (Below.step HBw_y_1.out hY1)
    replace kx_0_0__531 := cell_below hY1 kx_0_0__531
    replace kx_0_1__532 := cell_below hY1 kx_0_1__532
    replace kx_0_2__533 := cell_below hY1 kx_0_2__533
    replace kx_0_3__534 := cell_below hY1 kx_0_3__534
    replace kx_0_4__535 := cell_below hY1 kx_0_4__535
    replace ky_1_0 := cell_below hY1 ky_1_0
    replace ky_1_1 := cell_below hY1 ky_1_1
    replace ky_1_2 := cell_below hY1 ky_1_2
    replace ky_1_3 := cell_below hY1 ky_1_3
    replace ky_1_4 := cell_below hY1 ky_1_4
    clear hY1
    obtain rfl := ret_hid H
    go_wp2_with fail
    go_ret
    exact ⟨rfl, HBY1.out⟩
  | true =>
    replace H := ite_t H
    replace H := let_hid H
    obtain ⟨t_19, ht_19, H⟩ := H
    replace H := let_hid H
    obtain ⟨t_24, ht_24, H⟩ := H
    replace H := let_hid H
    obtain ⟨t_25, ht_25, H⟩ := H
    replace H := app_hid H
    refine wp_region_quiet_below (by kernel_rfl) (by kernel_rfl) ?_
    repeat (go_big_quiet_step (first | (go_at_call 112; exact nt_7 _ _)))
    refine wpQuiet_nil ?_
    intro Y1 hY1
    replace hY1 := below_class hY1
    clear nt_7
    replace kx_0_0__531 := Hkx_0_0__531.out
    clear Hkx_0_0__531
    replace kx_0_1__532 := Hkx_0_1__532.out
    clear Hkx_0_1__532
    replace kx_0_2__533 := Hkx_0_2__533.out
    clear Hkx_0_2__533
    replace kx_0_3__534 := Hkx_0_3__534.out
    clear Hkx_0_3__534
    replace kx_0_4__535 := Hkx_0_4__535.out
    clear Hkx_0_4__535
    replace ky_1_0 := Hky_1_0.out
    clear Hky_1_0
    replace ky_1_1 := Hky_1_1.out
    clear Hky_1_1
    replace ky_1_2 := Hky_1_2.out
    clear Hky_1_2
    replace ky_1_3 := Hky_1_3.out
    clear Hky_1_3
    replace ky_1_4 := Hky_1_4.out
    clear Hky_1_4
    have HBY1 := Lib.hid (Below.step HBw_y_1.out hY1)
    replace kx_0_0__531 := cell_below hY1 kx_0_0__531
    replace kx_0_1__532 := cell_below hY1 kx_0_1__532
    replace kx_0_2__533 := cell_below hY1 kx_0_2__533
    replace kx_0_3__534 := cell_below hY1 kx_0_3__534
    replace kx_0_4__535 := cell_below hY1 kx_0_4__535
    replace ky_1_0 := cell_below hY1 ky_1_0
    replace ky_1_1 := cell_below hY1 ky_1_1
    replace ky_1_2 := cell_below hY1 ky_1_2
    replace ky_1_3 := cell_below hY1 ky_1_3
    replace ky_1_4 := cell_below hY1 ky_1_4
    clear hY1
    obtain rfl := ret_hid H
    go_wp2_with fail
    go_ret
    exact ⟨rfl, HBY1.out⟩
end Go.Proofs.Ytkinlkmmelkdnaa.GiOverlaps

/- loop.example/g01062/impl.DoOverlap as a plain function, and the contract of the program's: where the plain one has an answer, the program has it. Conditions: slices read as lists. -/
namespace Go.Proofs.Ytkinlkmmelkdnaa.GiDoOverlap
set_option linter.unusedVariables false
set_option linter.unusedSimpArgs false
open Go.RowKit
open Go.Proofs.Ytkinlkmmelkdnaa.Rowed Go.Proofs.Ytkinlkmmelkdnaa.Turn Go.Proofs.Ytkinlkmmelkdnaa.Aid Go.Proofs.Ytkinlkmmelkdnaa.GoP Go.Proofs.Ytkinlkmmelkdnaa.GoM

def P (x : Go.Proofs.Ytkinlkmmelkdnaa.PShade.Shade) (y : Go.Proofs.Ytkinlkmmelkdnaa.PShade.Shade) : Option (Bool × Bool) :=
  unShade x fun (x_name : ByteArray) (x_hue : Int) (x_width : Int) (x_dark : Int) (x_light : Int) =>
  unShade y fun (y_name : ByteArray) (y_hue : Int) (y_width : Int) (y_dark : Int) (y_light : Int) =>
  Option.bind (Go.Proofs.Ytkinlkmmelkdnaa.GiIsShade.P (Go.Proofs.Ytkinlkmmelkdnaa.PShade.Shade.mk x_name x_hue x_width x_dark x_light)) fun (t_5 : Bool) =>
  letK (!t_5) fun (t_6 : Bool) =>
  joinK (fun (t_11 : Bool) =>
  iteK t_11
  (some (false, false))
  (Option.bind (Go.Proofs.Ytkinlkmmelkdnaa.GiOverlaps.P (Go.Proofs.Ytkinlkmmelkdnaa.PShade.Shade.mk x_name x_hue x_width x_dark x_light) (Go.Proofs.Ytkinlkmmelkdnaa.PShade.Shade.mk y_name y_hue y_width y_dark y_light)) fun (t_16 : Bool) =>
  some (t_16, true))) fun jt_11 => iteK t_6 (appK jt_11 true) (Option.bind (Go.Proofs.Ytkinlkmmelkdnaa.GiIsShade.P (Go.Proofs.Ytkinlkmmelkdnaa.PShade.Shade.mk y_name y_hue y_width y_dark y_light)) fun (t_9 : Bool) =>
  letK (!t_9) fun (t_10 : Bool) =>
  appK jt_11 t_10)

set_option maxRecDepth 100000 in
set_option maxHeartbeats 2000000 in
theorem C (x : Go.Proofs.Ytkinlkmmelkdnaa.PShade.Shade) (y : Go.Proofs.Ytkinlkmmelkdnaa.PShade.Shade)   (w : World)   {r0 : Bool} {r1 : Bool} (H : Hid (P x y = some (r0, r1))) :
    Calls Try.prog 61 #[x.val, y.val] w (Gives (.tuple #[.bool r0, .bool r1]) w) := by
  have HB := Lib.hid (Below.refl w.heap.size w)
  unfold P at H
  obtain ⟨x_name, x_hue, x_width, x_dark, x_light⟩ := x
  replace H := unShade_hid H
  obtain ⟨y_name, y_hue, y_width, y_dark, y_light⟩ := y
  replace H := unShade_hid H
  unfold Go.Proofs.Ytkinlkmmelkdnaa.PShade.Shade.val
  go_enter Try.func61, Try.ntmps61
  obtain ⟨w_x_0, hw_x_0⟩ : ∃ x, w.alloc (.cells #[.string x_name, .int .i64 x_hue, .int .i64 x_width, .int .i64 x_dark, .int .i64 x_light] 74) = x := ⟨_, rfl⟩
  have bw_x_0 : Below w.heap.size w w_x_0 := by rw [← hw_x_0]; exact (Below.refl _ _).alloc (Nat.le_refl _) _
  have HBw_x_0 := Lib.hid (Below.step HB.out bw_x_0)
  clear bw_x_0
  have kx_0_0 : w_x_0.cell? ⟨w.heap.size, 0, none⟩ = some (.string x_name) := by rw [← hw_x_0]; exact box_new _ _ _ 0 _ rfl
  have kx_0_1 : w_x_0.cell? ⟨w.heap.size, 1, none⟩ = some (.int .i64 x_hue) := by rw [← hw_x_0]; exact box_new _ _ _ 1 _ rfl
  have kx_0_2 : w_x_0.cell? ⟨w.heap.size, 2, none⟩ = some (.int .i64 x_width) := by rw [← hw_x_0]; exact box_new _ _ _ 2 _ rfl
  have kx_0_3 : w_x_0.cell? ⟨w.heap.size, 3, none⟩ = some (.int .i64 x_dark) := by rw [← hw_x_0]; exact box_new _ _ _ 3 _ rfl
  have kx_0_4 : w_x_0.cell? ⟨w.heap.size, 4, none⟩ = some (.int .i64 x_light) := by rw [← hw_x_0]; exact box_new _ _ _ 4 _ rfl
  obtain ⟨w_y_1, hw_y_1⟩ : ∃ x, w_x_0.alloc (.cells #[.string y_name, .int .i64 y_hue, .int .i64 y_width, .int .i64 y_dark, .int .i64 y_light] 74) = x := ⟨_, rfl⟩
  have bw_y_1 : Below w_x_0.heap.size w_x_0 w_y_1 := by rw [← hw_y_1]; exact (Below.refl _ _).alloc (Nat.le_refl _) _
  have HBw_y_1 := Lib.hid (Below.step HBw_x_0.out bw_y_1)
  have kx_0_0__536 := cell_below bw_y_1 kx_0_0
  have kx_0_1__537 := cell_below bw_y_1 kx_0_1
  have kx_0_2__538 := cell_below bw_y_1 kx_0_2
  have kx_0_3__539 := cell_below bw_y_1 kx_0_3
  have kx_0_4__540 := cell_below bw_y_1 kx_0_4
  clear bw_y_1
  have ky_1_0 : w_y_1.cell? ⟨w_x_0.heap.size, 0, none⟩ = some (.string y_name) := by rw [← hw_y_1]; exact box_new _ _ _ 0 _ rfl
  have ky_1_1 : w_y_1.cell? ⟨w_x_0.heap.size, 1, none⟩ = some (.int .i64 y_hue) := by rw [← hw_y_1]; exact box_new _ _ _ 1 _ rfl
  have ky_1_2 : w_y_1.cell? ⟨w_x_0.heap.size, 2, none⟩ = some (.int .i64 y_width) := by rw [← hw_y_1]; exact box_new _ _ _ 2 _ rfl
  have ky_1_3 : w_y_1.cell? ⟨w_x_0.heap.size, 3, none⟩ = some (.int .i64 y_dark) := by rw [← hw_y_1]; exact box_new _ _ _ 3 _ rfl
  have ky_1_4 : w_y_1.cell? ⟨w_x_0.heap.size, 4, none⟩ = some (.int .i64 y_light) := by rw [← hw_y_1]; exact box_new _ _ _ 4 _ rfl
  replace H := bind_hid H
  obtain ⟨t_5, qt_5, H⟩ := H
  go_wp2_with fail
  clear kx_0_0 kx_0_1 kx_0_2 kx_0_3 kx_0_4
  go_at_call 66
  refine (Go.Proofs.Ytkinlkmmelkdnaa.GiIsShade.C ((Go.Proofs.Ytkinlkmmelkdnaa.PShade.Shade.mk x_name x_hue x_width x_dark x_light))  _    qt_5).mono ?_
  rintro e_t_5 wt_5 ⟨rfl, bt_5⟩
  have HBwt_5 := Lib.hid (Below.step HBw_y_1.out bt_5)
  replace kx_0_0__536 := cell_below bt_5 kx_0_0__536
  replace kx_0_1__537 := cell_below bt_5 kx_0_1__537
  replace kx_0_2__538 := cell_below bt_5 kx_0_2__538
  replace kx_0_3__539 := cell_below bt_5 kx_0_3__539
  replace kx_0_4__540 := cell_below bt_5 kx_0_4__540
  replace ky_1_0 := cell_below bt_5 ky_1_0
  replace ky_1_1 := cell_below bt_5 ky_1_1
  replace ky_1_2 := cell_below bt_5 ky_1_2
  replace ky_1_3 := cell_below bt_5 ky_1_3
  replace ky_1_4 := cell_below bt_5 ky_1_4
  clear bt_5
  cases t_5 with
  | false =>
    replace H := let_hid H
    obtain ⟨t_6, ht_6, H⟩ := H
    obtain rfl : t_6 = true := ht_6.symm
    replace H := join_hid H
    replace H := ite_t H
    replace H := app_hid H
    replace H := ite_t H
    cases ret_hid H
    go_wp2_with fail
    go_ret2
    exact ⟨rfl, HBwt_5.out⟩
  | true =>
    replace H := let_hid H
    obtain ⟨t_6, ht_6, H⟩ := H
    obtain rfl : t_6 = false := ht_6.symm
    replace H := join_hid H
    replace H := ite_f H
    replace H := bind_hid H
    obtain ⟨t_9, qt_9, H⟩ := H
    go_wp2_with fail
    go_at_call 66
    refine (Go.Proofs.Ytkinlkmmelkdnaa.GiIsShade.C ((Go.Proofs.Ytkinlkmmelkdnaa.PShade.Shade.mk y_name y_hue y_width y_dark y_light))  _    qt_9).mono ?_
    rintro e_t_9 wt_9 ⟨rfl, bt_9⟩
    have HBwt_9 := Lib.hid (Below.step HBwt_5.out bt_9)
    replace kx_0_0__536 := cell_below bt_9 kx_0_0__536
    replace kx_0_1__537 := cell_below bt_9 kx_0_1__537
    replace kx_0_2__538 := cell_below bt_9 kx_0_2__538
    replace kx_0_3__539 := cell_below bt_9 kx_0_3__539
    replace kx_0_4__540 := cell_below bt_9 kx_0_4__540
    replace ky_1_0 := cell_below bt_9 ky_1_0
    replace ky_1_1 := cell_below bt_9 ky_1_1
    replace ky_1_2 := cell_below bt_9 ky_1_2
    replace ky_1_3 := cell_below bt_9 ky_1_3
    replace ky_1_4 := cell_below bt_9 ky_1_4
    clear bt_9
    cases t_9 with
    | false =>
      replace H := let_hid H
      obtain ⟨t_10, ht_10, H⟩ := H
      obtain rfl : t_10 = true := ht_10.symm
      replace H := app_hid H
      replace H := ite_t H
      cases ret_hid H
      go_wp2_with fail
      go_ret2
      exact ⟨rfl, HBwt_9.out⟩
    | true =>
      replace H := let_hid H
      obtain ⟨t_10, ht_10, H⟩ := H
      obtain rfl : t_10 = false := ht_10.symm
      replace H := app_hid H
      replace H := ite_f H
      replace H := bind_hid H
      obtain ⟨t_16, qt_16, H⟩ := H
      go_wp2_with fail
      go_at_call 122
      refine (Go.Proofs.Ytkinlkmmelkdnaa.GiOverlaps.C ((Go.Proofs.Ytkinlkmmelkdnaa.PShade.Shade.mk x_name x_hue x_width x_dark x_light)) ((Go.Proofs.Ytkinlkmmelkdnaa.PShade.Shade.mk y_name y_hue y_width y_dark y_light))  _    qt_16).mono ?_
      rintro e_t_16 wt_16 ⟨rfl, bt_16⟩
      have HBwt_16 := Lib.hid (Below.step HBwt_9.out bt_16)
      replace kx_0_0__536 := cell_below bt_16 kx_0_0__536
      replace kx_0_1__537 := cell_below bt_16 kx_0_1__537
      replace kx_0_2__538 := cell_below bt_16 kx_0_2__538
      replace kx_0_3__539 := cell_below bt_16 kx_0_3__539
      replace kx_0_4__540 := cell_below bt_16 kx_0_4__540
      replace ky_1_0 := cell_below bt_16 ky_1_0
      replace ky_1_1 := cell_below bt_16 ky_1_1
      replace ky_1_2 := cell_below bt_16 ky_1_2
      replace ky_1_3 := cell_below bt_16 ky_1_3
      replace ky_1_4 := cell_below bt_16 ky_1_4
      clear bt_16
      cases ret_hid H
      go_wp2_with fail
      go_ret2
      exact ⟨rfl, HBwt_16.out⟩
end Go.Proofs.Ytkinlkmmelkdnaa.GiDoOverlap

/- loop.example/g01062/spec.l7Meet as a plain function, and the contract of the program's: where the plain one has an answer, the program has it. Conditions: slices read as lists. -/
namespace Go.Proofs.Ytkinlkmmelkdnaa.GsL7Meet
set_option linter.unusedVariables false
set_option linter.unusedSimpArgs false
open Go.RowKit
open Go.Proofs.Ytkinlkmmelkdnaa.Rowed Go.Proofs.Ytkinlkmmelkdnaa.Turn Go.Proofs.Ytkinlkmmelkdnaa.Aid Go.Proofs.Ytkinlkmmelkdnaa.GoP Go.Proofs.Ytkinlkmmelkdnaa.GoM

def P (x : Go.Proofs.Ytkinlkmmelkdnaa.PShade.Shade) (y : Go.Proofs.Ytkinlkmmelkdnaa.PShade.Shade) : Option (Bool) :=
  unShade x fun (x_name : ByteArray) (x_hue : Int) (x_width : Int) (x_dark : Int) (x_light : Int) =>
  unShade y fun (y_name : ByteArray) (y_hue : Int) (y_width : Int) (y_dark : Int) (y_light : Int) =>
  Option.bind (Go.Proofs.Ytkinlkmmelkdnaa.GsL7Far.P x_hue y_hue) fun (t_7 : Int) =>
  letK (IntKind.i64.wrap (x_width + y_width)) fun (t_12 : Int) =>
  letK (decide (t_7 ≤ t_12)) fun (t_13 : Bool) =>
  joinK (fun (t_20 : Bool) =>
  joinK (fun (t_27 : Bool) =>
  some t_27) fun jt_27 => iteK t_20 (letK (decide (y_dark ≤ x_light)) fun (t_26 : Bool) =>
  appK jt_27 t_26) (appK jt_27 false)) fun jt_20 => iteK t_13 (letK (decide (x_dark ≤ y_light)) fun (t_19 : Bool) =>
  appK jt_20 t_19) (appK jt_20 false)

set_option maxRecDepth 100000 in
set_option maxHeartbeats 2000000 in
theorem C (x : Go.Proofs.Ytkinlkmmelkdnaa.PShade.Shade) (y : Go.Proofs.Ytkinlkmmelkdnaa.PShade.Shade)   (w : World)   {r : Bool} (H : Hid (P x y = some r)) :
    Calls Try.prog 124 #[x.val, y.val] w (Gives (.bool r) w) := by
  have HB := Lib.hid (Below.refl w.heap.size w)
  unfold P at H
  obtain ⟨x_name, x_hue, x_width, x_dark, x_light⟩ := x
  replace H := unShade_hid H
  obtain ⟨y_name, y_hue, y_width, y_dark, y_light⟩ := y
  replace H := unShade_hid H
  unfold Go.Proofs.Ytkinlkmmelkdnaa.PShade.Shade.val
  go_enter Try.func124, Try.ntmps124
  obtain ⟨w_x_0, hw_x_0⟩ : ∃ x, w.alloc (.cells #[.string x_name, .int .i64 x_hue, .int .i64 x_width, .int .i64 x_dark, .int .i64 x_light] 74) = x := ⟨_, rfl⟩
  have bw_x_0 : Below w.heap.size w w_x_0 := by rw [← hw_x_0]; exact (Below.refl _ _).alloc (Nat.le_refl _) _
  have HBw_x_0 := Lib.hid (Below.step HB.out bw_x_0)
  clear bw_x_0
  have kx_0_0 : w_x_0.cell? ⟨w.heap.size, 0, none⟩ = some (.string x_name) := by rw [← hw_x_0]; exact box_new _ _ _ 0 _ rfl
  have kx_0_1 : w_x_0.cell? ⟨w.heap.size, 1, none⟩ = some (.int .i64 x_hue) := by rw [← hw_x_0]; exact box_new _ _ _ 1 _ rfl
  have kx_0_2 : w_x_0.cell? ⟨w.heap.size, 2, none⟩ = some (.int .i64 x_width) := by rw [← hw_x_0]; exact box_new _ _ _ 2 _ rfl
  have kx_0_3 : w_x_0.cell? ⟨w.heap.size, 3, none⟩ = some (.int .i64 x_dark) := by rw [← hw_x_0]; exact box_new _ _ _ 3 _ rfl
  have kx_0_4 : w_x_0.cell? ⟨w.heap.size, 4, none⟩ = some (.int .i64 x_light) := by rw [← hw_x_0]; exact box_new _ _ _ 4 _ rfl
  obtain ⟨w_y_1, hw_y_1⟩ : ∃ x, w_x_0.alloc (.cells #[.string y_name, .int .i64 y_hue, .int .i64 y_width, .int .i64 y_dark, .int .i64 y_light] 74) = x := ⟨_, rfl⟩
  have bw_y_1 : Below w_x_0.heap.size w_x_0 w_y_1 := by rw [← hw_y_1]; exact (Below.refl _ _).alloc (Nat.le_refl _) _
  have HBw_y_1 := Lib.hid (Below.step HBw_x_0.out bw_y_1)
  have kx_0_0__541 := cell_below bw_y_1 kx_0_0
  have kx_0_1__542 := cell_below bw_y_1 kx_0_1
  have kx_0_2__543 := cell_below bw_y_1 kx_0_2
  have kx_0_3__544 := cell_below bw_y_1 kx_0_3
  have kx_0_4__545 := cell_below bw_y_1 kx_0_4
  clear bw_y_1
  have ky_1_0 : w_y_1.cell? ⟨w_x_0.heap.size, 0, none⟩ = some (.string y_name) := by rw [← hw_y_1]; exact box_new _ _ _ 0 _ rfl
  have ky_1_1 : w_y_1.cell? ⟨w_x_0.heap.size, 1, none⟩ = some (.int .i64 y_hue) := by rw [← hw_y_1]; exact box_new _ _ _ 1 _ rfl
  have ky_1_2 : w_y_1.cell? ⟨w_x_0.heap.size, 2, none⟩ = some (.int .i64 y_width) := by rw [← hw_y_1]; exact box_new _ _ _ 2 _ rfl
  have ky_1_3 : w_y_1.cell? ⟨w_x_0.heap.size, 3, none⟩ = some (.int .i64 y_dark) := by rw [← hw_y_1]; exact box_new _ _ _ 3 _ rfl
  have ky_1_4 : w_y_1.cell? ⟨w_x_0.heap.size, 4, none⟩ = some (.int .i64 y_light) := by rw [← hw_y_1]; exact box_new _ _ _ 4 _ rfl
  go_wp2_with fail
  clear kx_0_0 kx_0_1 kx_0_2 kx_0_3 kx_0_4
  have Hkx_0_0__541 := Lib.hid kx_0_0__541
  replace kx_0_0__541 := cell_regrown kx_0_0__541
  have Hkx_0_1__542 := Lib.hid kx_0_1__542
  replace kx_0_1__542 := cell_regrown kx_0_1__542
  have Hkx_0_2__543 := Lib.hid kx_0_2__543
  replace kx_0_2__543 := cell_regrown kx_0_2__543
  have Hkx_0_3__544 := Lib.hid kx_0_3__544
  replace kx_0_3__544 := cell_regrown kx_0_3__544
  have Hkx_0_4__545 := Lib.hid kx_0_4__545
  replace kx_0_4__545 := cell_regrown kx_0_4__545
  have Hky_1_0 := Lib.hid ky_1_0
  replace ky_1_0 := cell_regrown ky_1_0
  have Hky_1_1 := Lib.hid ky_1_1
  replace ky_1_1 := cell_regrown ky_1_1
  have Hky_1_2 := Lib.hid ky_1_2
  replace ky_1_2 := cell_regrown ky_1_2
  have Hky_1_3 := Lib.hid ky_1_3
  replace ky_1_3 := cell_regrown ky_1_3
  have Hky_1_4 := Lib.hid ky_1_4
  replace ky_1_4 := cell_regrown ky_1_4
  replace H := bind_hid H
  obtain ⟨t_7, qt_7, H⟩ := H
  have nt_7 : ∀ d os, Calls Try.prog 116 #[.int .i64 x_hue, .int .i64 y_hue] (Go.Sort.grow (redrawn w_y_1 d) os) fun e w'' => e = .returned (.int .i64 t_7) ∧ ∃ p : Regrown, w'' = Go.Sort.grow (redrawn w_y_1 p.d) p.os := fun d os => Calls.regrown_of (Go.Proofs.Ytkinlkmmelkdnaa.GsL7Far.C (x_hue) (y_hue)  _    qt_7)
  replace H := let_hid H
  obtain ⟨t_12, ht_12, H⟩ := H
  replace H := let_hid H
  obtain ⟨t_13, ht_13, H⟩ := H
  replace H := join_hid H
  cases t_13 with
  | false =>
    replace H := ite_f H
    replace H := app_hid H
    replace H := join_hid H
    replace H := ite_f H
    replace H := app_hid H
    refine wp_region_quiet_below (by kernel_rfl) (by kernel_rfl) ?_
    repeat (go_big_quiet_step (first | (go_at_call 116; exact nt_7 _ _)))
    refine wpQuiet_nil ?_
    intro Y1 hY1
    replace hY1 := below_class hY1
    clear nt_7
    replace kx_0_0__541 := Hkx_0_0__541.out
    clear Hkx_0_0__541
    replace kx_0_1__542 := Hkx_0_1__542.out
    clear Hkx_0_1__542
    replace kx_0_2__543 := Hkx_0_2__543.out
    clear Hkx_0_2__543
    replace kx_0_3__544 := Hkx_0_3__544.out
    clear Hkx_0_3__544
    replace kx_0_4__545 := Hkx_0_4__545.out
    clear Hkx_0_4__545
    replace ky_1_0 := Hky_1_0.out
    clear Hky_1_0
    replace ky_1_1 := Hky_1_1.out
    clear Hky_1_1
    replace ky_1_2 := Hky_1_2.out
    clear Hky_1_2
    replace ky_1_3 := Hky_1_3.out
    clear Hky_1_3
    replace ky_1_4 := Hky_1_4.out
    clear Hky_1_4
    have HBY1 := Lib.hid (Below.step HBw_y_1.out hY1)
    replace kx_0_0__541 := cell_below hY1 kx_0_0__541
    replace kx_0_1__542 := cell_below hY1 kx_0_1__542
    replace kx_0_2__543 := cell_below hY1 kx_0_2__543
    replace kx_0_3__544 := cell_below hY1 kx_0_3__544
    replace kx_0_4__545 := cell_below hY1 kx_0_4__545
    replace ky_1_0 := cell_below hY1 ky_1_0
    replace ky_1_1 := cell_below hY1 ky_1_1
    replace ky_1_2 := cell_below hY1 ky_1_2
    replace ky_1_3 := cell_below hY1 ky_1_3
    replace ky_1_4 := cell_below hY1 ky_1_4
    clear hY1
    obtain rfl := ret_hid H
    go_wp2_with fail
    go_ret
    exact ⟨rfl, HBY1.out⟩
  | true =>
    replace H := ite_t H
    replace H := let_hid H
    obtain ⟨t_19, ht_19, H⟩ := H
    replace H := app_hid H
    replace H := join_hid H
    cases t_19 with
    | false =>
      replace H := ite_f H
      replace H := app_hid H
      refine wp_region_quiet_below (by kernel_rfl) (by kernel_rfl) ?_
      repeat (go_big_quiet_step (first | (go_at_call 116; exact nt_7 _ _)))
      refine wpQuiet_nil ?_
      intro Y1 hY1
      replace hY1 := below_class hY1
      clear nt_7
      replace kx_0_0__541 := Hkx_0_0__541.out
      clear Hkx_0_0__541
      replace kx_0_1__542 := Hkx_0_1__542.out
      clear Hkx_0_1__542
      replace kx_0_2__543 := Hkx_0_2__543.out
      clear Hkx_0_2__543
      replace kx_0_3__544 := Hkx_0_3__544.out
      clear Hkx_0_3__544
      replace kx_0_4__545 := Hkx_0_4__545.out
      clear Hkx_0_4__545
      replace ky_1_0 := Hky_1_0.out
      clear Hky_1_0
      replace ky_1_1 := Hky_1_1.out
      clear Hky_1_1
      replace ky_1_2 := Hky_1_2.out
      clear Hky_1_2
      replace ky_1_3 := Hky_1_3.out
      clear Hky_1_3
      replace ky_1_4 := Hky_1_4.out
      clear Hky_1_4
      have HBY1 := Lib.hid (Below.step HBw_y_1.out hY1)
      replace kx_0_0__541 := cell_below hY1 kx_0_0__541
      replace kx_0_1__542 := cell_below hY1 kx_0_1__542
      replace kx_0_2__543 := cell_below hY1 kx_0_2__543
      replace kx_0_3__544 := cell_below hY1 kx_0_3__544
      replace kx_0_4__545 := cell_below hY1 kx_0_4__545
      replace ky_1_0 := cell_below hY1 ky_1_0
      replace ky_1_1 := cell_below hY1 ky_1_1
      replace ky_1_2 := cell_below hY1 ky_1_2
      replace ky_1_3 := cell_below hY1 ky_1_3
      replace ky_1_4 := cell_below hY1 ky_1_4
      clear hY1
      obtain rfl := ret_hid H
      go_wp2_with fail
      go_ret
      exact ⟨rfl, HBY1.out⟩
    | true =>
      replace H := ite_t H
      replace H := let_hid H
      obtain ⟨t_26, ht_26, H⟩ := H
      replace H := app_hid H
      refine wp_region_quiet_below (by kernel_rfl) (by kernel_rfl) ?_
      repeat (go_big_quiet_step (first | (go_at_call 116; exact nt_7 _ _)))
      refine wpQuiet_nil ?_
      intro Y1 hY1
      replace hY1 := below_class hY1
      clear nt_7
      replace kx_0_0__541 := Hkx_0_0__541.out
      clear Hkx_0_0__541
      replace kx_0_1__542 := Hkx_0_1__542.out
      clear Hkx_0_1__542
      replace kx_0_2__543 := Hkx_0_2__543.out
      clear Hkx_0_2__543
      replace kx_0_3__544 := Hkx_0_3__544.out
      clear Hkx_0_3__544
      replace kx_0_4__545 := Hkx_0_4__545.out
      clear Hkx_0_4__545
      replace ky_1_0 := Hky_1_0.out
      clear Hky_1_0
      replace ky_1_1 := Hky_1_1.out
      clear Hky_1_1
      replace ky_1_2 := Hky_1_2.out
      clear Hky_1_2
      replace ky_1_3 := Hky_1_3.out
      clear Hky_1_3
      replace ky_1_4 := Hky_1_4.out
      clear Hky_1_4
      have HBY1 := Lib.hid (Below.step HBw_y_1.out hY1)
      replace kx_0_0__541 := cell_below hY1 kx_0_0__541
      replace kx_0_1__542 := cell_below hY1 kx_0_1__542
      replace kx_0_2__543 := cell_below hY1 kx_0_2__543
      replace kx_0_3__544 := cell_below hY1 kx_0_3__544
      replace kx_0_4__545 := cell_below hY1 kx_0_4__545
      replace ky_1_0 := cell_below hY1 ky_1_0
      replace ky_1_1 := cell_below hY1 ky_1_1
      replace ky_1_2 := cell_below hY1 ky_1_2
      replace ky_1_3 := cell_below hY1 ky_1_3
      replace ky_1_4 := cell_below hY1 ky_1_4
      clear hY1
      obtain rfl := ret_hid H
      go_wp2_with fail
      go_ret
      exact ⟨rfl, HBY1.out⟩
end Go.Proofs.Ytkinlkmmelkdnaa.GsL7Meet

/- loop.example/g01062/spec.DoOverlap as a plain function, and the contract of the program's: where the plain one has an answer, the program has it. Conditions: slices read as lists. -/
namespace Go.Proofs.Ytkinlkmmelkdnaa.GsDoOverlap
set_option linter.unusedVariables false
set_option linter.unusedSimpArgs false
open Go.RowKit
open Go.Proofs.Ytkinlkmmelkdnaa.Rowed Go.Proofs.Ytkinlkmmelkdnaa.Turn Go.Proofs.Ytkinlkmmelkdnaa.Aid Go.Proofs.Ytkinlkmmelkdnaa.GoP Go.Proofs.Ytkinlkmmelkdnaa.GoM

def P (x : Go.Proofs.Ytkinlkmmelkdnaa.PShade.Shade) (y : Go.Proofs.Ytkinlkmmelkdnaa.PShade.Shade) : Option (Bool × Bool) :=
  unShade x fun (x_name : ByteArray) (x_hue : Int) (x_width : Int) (x_dark : Int) (x_light : Int) =>
  unShade y fun (y_name : ByteArray) (y_hue : Int) (y_width : Int) (y_dark : Int) (y_light : Int) =>
  Option.bind (Go.Proofs.Ytkinlkmmelkdnaa.GsL7One.P (Go.Proofs.Ytkinlkmmelkdnaa.PShade.Shade.mk x_name x_hue x_width x_dark x_light)) fun (t_5 : Bool) =>
  letK (!t_5) fun (t_6 : Bool) =>
  joinK (fun (t_11 : Bool) =>
  iteK t_11
  (some (false, false))
  (Option.bind (Go.Proofs.Ytkinlkmmelkdnaa.GsL7Meet.P (Go.Proofs.Ytkinlkmmelkdnaa.PShade.Shade.mk x_name x_hue x_width x_dark x_light) (Go.Proofs.Ytkinlkmmelkdnaa.PShade.Shade.mk y_name y_hue y_width y_dark y_light)) fun (t_16 : Bool) =>
  some (t_16, true))) fun jt_11 => iteK t_6 (appK jt_11 true) (Option.bind (Go.Proofs.Ytkinlkmmelkdnaa.GsL7One.P (Go.Proofs.Ytkinlkmmelkdnaa.PShade.Shade.mk y_name y_hue y_width y_dark y_light)) fun (t_9 : Bool) =>
  letK (!t_9) fun (t_10 : Bool) =>
  appK jt_11 t_10)

set_option maxRecDepth 100000 in
set_option maxHeartbeats 2000000 in
theorem C (x : Go.Proofs.Ytkinlkmmelkdnaa.PShade.Shade) (y : Go.Proofs.Ytkinlkmmelkdnaa.PShade.Shade)   (w : World)   {r0 : Bool} {r1 : Bool} (H : Hid (P x y = some (r0, r1))) :
    Calls Try.prog 62 #[x.val, y.val] w (Gives (.tuple #[.bool r0, .bool r1]) w) := by
  have HB := Lib.hid (Below.refl w.heap.size w)
  unfold P at H
  obtain ⟨x_name, x_hue, x_width, x_dark, x_light⟩ := x
  replace H := unShade_hid H
  obtain ⟨y_name, y_hue, y_width, y_dark, y_light⟩ := y
  replace H := unShade_hid H
  unfold Go.Proofs.Ytkinlkmmelkdnaa.PShade.Shade.val
  go_enter Try.func62, Try.ntmps62
  obtain ⟨w_x_0, hw_x_0⟩ : ∃ x, w.alloc (.cells #[.string x_name, .int .i64 x_hue, .int .i64 x_width, .int .i64 x_dark, .int .i64 x_light] 74) = x := ⟨_, rfl⟩
  have bw_x_0 : Below w.heap.size w w_x_0 := by rw [← hw_x_0]; exact (Below.refl _ _).alloc (Nat.le_refl _) _
  have HBw_x_0 := Lib.hid (Below.step HB.out bw_x_0)
  clear bw_x_0
  have kx_0_0 : w_x_0.cell? ⟨w.heap.size, 0, none⟩ = some (.string x_name) := by rw [← hw_x_0]; exact box_new _ _ _ 0 _ rfl
  have kx_0_1 : w_x_0.cell? ⟨w.heap.size, 1, none⟩ = some (.int .i64 x_hue) := by rw [← hw_x_0]; exact box_new _ _ _ 1 _ rfl
  have kx_0_2 : w_x_0.cell? ⟨w.heap.size, 2, none⟩ = some (.int .i64 x_width) := by rw [← hw_x_0]; exact box_new _ _ _ 2 _ rfl
  have kx_0_3 : w_x_0.cell? ⟨w.heap.size, 3, none⟩ = some (.int .i64 x_dark) := by rw [← hw_x_0]; exact box_new _ _ _ 3 _ rfl
  have kx_0_4 : w_x_0.cell? ⟨w.heap.size, 4, none⟩ = some (.int .i64 x_light) := by rw [← hw_x_0]; exact box_new _ _ _ 4 _ rfl
  obtain ⟨w_y_1, hw_y_1⟩ : ∃ x, w_x_0.alloc (.cells #[.string y_name, .int .i64 y_hue, .int .i64 y_width, .int .i64 y_dark, .int .i64 y_light] 74) = x := ⟨_, rfl⟩
  have bw_y_1 : Below w_x_0.heap.size w_x_0 w_y_1 := by rw [← hw_y_1]; exact (Below.refl _ _).alloc (Nat.le_refl _) _
  have HBw_y_1 := Lib.hid (Below.step HBw_x_0.out bw_y_1)
  have kx_0_0__546 := cell_below bw_y_1 kx_0_0
  have kx_0_1__547 := cell_below bw_y_1 kx_0_1
  have kx_0_2__548 := cell_below bw_y_1 kx_0_2
  have kx_0_3__549 := cell_below bw_y_1 kx_0_3
  have kx_0_4__550 := cell_below bw_y_1 kx_0_4
  clear bw_y_1
  have ky_1_0 : w_y_1.cell? ⟨w_x_0.heap.size, 0, none⟩ = some (.string y_name) := by rw [← hw_y_1]; exact box_new _ _ _ 0 _ rfl
  have ky_1_1 : w_y_1.cell? ⟨w_x_0.heap.size, 1, none⟩ = some (.int .i64 y_hue) := by rw [← hw_y_1]; exact box_new _ _ _ 1 _ rfl
  have ky_1_2 : w_y_1.cell? ⟨w_x_0.heap.size, 2, none⟩ = some (.int .i64 y_width) := by rw [← hw_y_1]; exact box_new _ _ _ 2 _ rfl
  have ky_1_3 : w_y_1.cell? ⟨w_x_0.heap.size, 3, none⟩ = some (.int .i64 y_dark) := by rw [← hw_y_1]; exact box_new _ _ _ 3 _ rfl
  have ky_1_4 : w_y_1.cell? ⟨w_x_0.heap.size, 4, none⟩ = some (.int .i64 y_light) := by rw [← hw_y_1]; exact box_new _ _ _ 4 _ rfl
  replace H := bind_hid H
  obtain ⟨t_5, qt_5, H⟩ := H
  go_wp2_with fail
  clear kx_0_0 kx_0_1 kx_0_2 kx_0_3 kx_0_4
  go_at_call 123
  refine (Go.Proofs.Ytkinlkmmelkdnaa.GsL7One.C ((Go.Proofs.Ytkinlkmmelkdnaa.PShade.Shade.mk x_name x_hue x_width x_dark x_light))  _    qt_5).mono ?_
  rintro e_t_5 wt_5 ⟨rfl, bt_5⟩
  have HBwt_5 := Lib.hid (Below.step HBw_y_1.out bt_5)
  replace kx_0_0__546 := cell_below bt_5 kx_0_0__546
  replace kx_0_1__547 := cell_below bt_5 kx_0_1__547
  replace kx_0_2__548 := cell_below bt_5 kx_0_2__548
  replace kx_0_3__549 := cell_below bt_5 kx_0_3__549
  replace kx_0_4__550 := cell_below bt_5 kx_0_4__550
  replace ky_1_0 := cell_below bt_5 ky_1_0
  replace ky_1_1 := cell_below bt_5 ky_1_1
  replace ky_1_2 := cell_below bt_5 ky_1_2
  replace ky_1_3 := cell_below bt_5 ky_1_3
  replace ky_1_4 := cell_below bt_5 ky_1_4
  clear bt_5
  cases t_5 with
  | false =>
    replace H := let_hid H
    obtain ⟨t_6, ht_6, H⟩ := H
    obtain rfl : t_6 = true := ht_6.symm
    replace H := join_hid H
    replace H := ite_t H
    replace H := app_hid H
    replace H := ite_t H
    cases ret_hid H
    go_wp2_with fail
    go_ret2
    exact ⟨rfl, HBwt_5.out⟩
  | true =>
    replace H := let_hid H
    obtain ⟨t_6, ht_6, H⟩ := H
    obtain rfl : t_6 = false := ht_6.symm
    replace H := join_hid H
    replace H := ite_f H
    replace H := bind_hid H
    obtain ⟨t_9, qt_9, H⟩ := H
    go_wp2_with fail
    go_at_call 123
    refine (Go.Proofs.Ytkinlkmmelkdnaa.GsL7One.C ((Go.Proofs.Ytkinlkmmelkdnaa.PShade.Shade.mk y_name y_hue y_width y_dark y_light))  _    qt_9).mono ?_
    rintro e_t_9 wt_9 ⟨rfl, bt_9⟩
    have HBwt_9 := Lib.hid (Below.step HBwt_5.out bt_9)
    replace kx_0_0__546 := cell_below bt_9 kx_0_0__546
    replace kx_0_1__547 := cell_below bt_9 kx_0_1__547
    replace kx_0_2__548 := cell_below bt_9 kx_0_2__548
    replace kx_0_3__549 := cell_below bt_9 kx_0_3__549
    replace kx_0_4__550 := cell_below bt_9 kx_0_4__550
    replace ky_1_0 := cell_below bt_9 ky_1_0
    replace ky_1_1 := cell_below bt_9 ky_1_1
    replace ky_1_2 := cell_below bt_9 ky_1_2
    replace ky_1_3 := cell_below bt_9 ky_1_3
    replace ky_1_4 := cell_below bt_9 ky_1_4
    clear bt_9
    cases t_9 with
    | false =>
      replace H := let_hid H
      obtain ⟨t_10, ht_10, H⟩ := H
      obtain rfl : t_10 = true := ht_10.symm
      replace H := app_hid H
      replace H := ite_t H
      cases ret_hid H
      go_wp2_with fail
      go_ret2
      exact ⟨rfl, HBwt_9.out⟩
    | true =>
      replace H := let_hid H
      obtain ⟨t_10, ht_10, H⟩ := H
      obtain rfl : t_10 = false := ht_10.symm
      replace H := app_hid H
      replace H := ite_f H
      replace H := bind_hid H
      obtain ⟨t_16, qt_16, H⟩ := H
      go_wp2_with fail
      go_at_call 124
      refine (Go.Proofs.Ytkinlkmmelkdnaa.GsL7Meet.C ((Go.Proofs.Ytkinlkmmelkdnaa.PShade.Shade.mk x_name x_hue x_width x_dark x_light)) ((Go.Proofs.Ytkinlkmmelkdnaa.PShade.Shade.mk y_name y_hue y_width y_dark y_light))  _    qt_16).mono ?_
      rintro e_t_16 wt_16 ⟨rfl, bt_16⟩
      have HBwt_16 := Lib.hid (Below.step HBwt_9.out bt_16)
      replace kx_0_0__546 := cell_below bt_16 kx_0_0__546
      replace kx_0_1__547 := cell_below bt_16 kx_0_1__547
      replace kx_0_2__548 := cell_below bt_16 kx_0_2__548
      replace kx_0_3__549 := cell_below bt_16 kx_0_3__549
      replace kx_0_4__550 := cell_below bt_16 kx_0_4__550
      replace ky_1_0 := cell_below bt_16 ky_1_0
      replace ky_1_1 := cell_below bt_16 ky_1_1
      replace ky_1_2 := cell_below bt_16 ky_1_2
      replace ky_1_3 := cell_below bt_16 ky_1_3
      replace ky_1_4 := cell_below bt_16 ky_1_4
      clear bt_16
      cases ret_hid H
      go_wp2_with fail
      go_ret2
      exact ⟨rfl, HBwt_16.out⟩
end Go.Proofs.Ytkinlkmmelkdnaa.GsDoOverlap

/- loop.example/g01062/impl.OverlapPairs as a plain function, and the contract of the program's: where the plain one has an answer, the program has it. Conditions: slices read as lists. -/
namespace Go.Proofs.Ytkinlkmmelkdnaa.GiOverlapPairs
set_option linter.unusedVariables false
set_option linter.unusedSimpArgs false
open Go.RowKit
open Go.Proofs.Ytkinlkmmelkdnaa.Rowed Go.Proofs.Ytkinlkmmelkdnaa.Turn Go.Proofs.Ytkinlkmmelkdnaa.Aid Go.Proofs.Ytkinlkmmelkdnaa.GoP Go.Proofs.Ytkinlkmmelkdnaa.GoM

def l1 (t_15_name : ByteArray) (t_15_hue : Int) (t_15_width : Int) (t_15_dark : Int) (t_15_light : Int) (t_23 : (List Go.Proofs.Ytkinlkmmelkdnaa.PShade.Shade)) (k1 : Nat) (s : (List (List ByteArray))) (nx1 bk1 : (List (List ByteArray)) → Option ((List (List ByteArray)) × Bool)) : Option ((List (List ByteArray)) × Bool) :=
  letK s fun pairs_4l1 =>
  Option.bind (idx t_23 (k1 : Int)) fun (yt_27 : Go.Proofs.Ytkinlkmmelkdnaa.PShade.Shade) =>
  unShade yt_27 fun (t_27_name : ByteArray) (t_27_hue : Int) (t_27_width : Int) (t_27_dark : Int) (t_27_light : Int) =>
  Option.bind (Go.Proofs.Ytkinlkmmelkdnaa.GiOverlaps.P (Go.Proofs.Ytkinlkmmelkdnaa.PShade.Shade.mk t_15_name t_15_hue t_15_width t_15_dark t_15_light) (Go.Proofs.Ytkinlkmmelkdnaa.PShade.Shade.mk t_27_name t_27_hue t_27_width t_27_dark t_27_light)) fun (t_33 : Bool) =>
  iteK t_33
  (letK ([t_15_name, t_27_name]) fun (t_39 : (List ByteArray)) =>
  guardK (pairs_4l1.length ≤ 1099511627776) <|
  letK (pairs_4l1 ++ [t_39]) fun (t_41 : (List (List ByteArray))) =>
  appK nx1 (t_41))
  (appK nx1 (pairs_4l1))

def e1 (nx0 : ((List (List ByteArray))) → Option ((List (List ByteArray)) × Bool)) (s : (List (List ByteArray))) : Option ((List (List ByteArray)) × Bool) :=
  letK s fun pairs_4l1 =>
  appK nx0 (pairs_4l1)

def l0 (list : (List Go.Proofs.Ytkinlkmmelkdnaa.PShade.Shade)) (k0 : Nat) (s : (List (List ByteArray))) (nx0 bk0 : (List (List ByteArray)) → Option ((List (List ByteArray)) × Bool)) : Option ((List (List ByteArray)) × Bool) :=
  letK s fun pairs_4l0 =>
  Option.bind (idx list (k0 : Int)) fun (yt_15 : Go.Proofs.Ytkinlkmmelkdnaa.PShade.Shade) =>
  unShade yt_15 fun (t_15_name : ByteArray) (t_15_hue : Int) (t_15_width : Int) (t_15_dark : Int) (t_15_light : Int) =>
  letK (IntKind.i64.wrap ((k0 : Int) + 1)) fun (t_22 : Int) =>
  guardK ((0 : Int) ≤ t_22 ∧ (t_22 : Int) ≤ (list.length : Int)) <|
  letK (List.drop (Int.toNat t_22) list) fun (t_23 : (List Go.Proofs.Ytkinlkmmelkdnaa.PShade.Shade)) =>
  cntK (l1 t_15_name t_15_hue t_15_width t_15_dark t_15_light t_23) (t_23.length) 0 (pairs_4l0) (e1 nx0)

def e0  (s : (List (List ByteArray))) : Option ((List (List ByteArray)) × Bool) :=
  letK s fun pairs_4l0 =>
  some (pairs_4l0, true)

def P (list : (List Go.Proofs.Ytkinlkmmelkdnaa.PShade.Shade)) : Option ((List (List ByteArray)) × Bool) :=
  Option.bind (Go.Proofs.Ytkinlkmmelkdnaa.GiAreShades.P list) fun (t_3 : Bool) =>
  letK (!t_3) fun (t_4 : Bool) =>
  iteK t_4
  (some (([] : List (List ByteArray)), false))
  (cntK (l0 list) (list.length) 0 (([] : List (List ByteArray))) (e0 ))

set_option maxRecDepth 100000 in
set_option maxHeartbeats 2000000 in
theorem C (list : (List Go.Proofs.Ytkinlkmmelkdnaa.PShade.Shade)) (A0 : Option Addr) (c0 : Nat)  (w : World) (M0 : Hid (Cells w 5 A0 list.length (Go.Proofs.Ytkinlkmmelkdnaa.PShade.flat list))) (N0 : Hid (list.length ≤ 9223372036854775807)) (Q0 : Hid (Room A0 list.length c0))  {r0 : (List (List ByteArray))} {r1 : Bool} (H : Hid (P list = some (r0, r1))) :
    Calls Try.prog 63 #[.slice A0 list.length c0] w (fun e w' => ∃ A_r0 c_r0, e = .returned (.tuple #[.slice A_r0 r0.length c_r0, .bool r1]) ∧ (∃ B_, Go.Proofs.Ytkinlkmmelkdnaa.GoN.OwnNest w' (w.heap.size) 68 9 1 (fun z_ => z_.map Value.string) A_r0 c_r0 r0 B_) ∧ Below w.heap.size w w') := by
  have HB := Lib.hid (Below.refl w.heap.size w)
  unfold P at H
  have N0o := N0.out
  obtain ⟨i0_74, hi_74, hz0_74, hz1_74, hz2_74⟩ := Aid.info_parts (P := Try.prog) (T := 74) (z := .agg #[.string ByteArray.empty, .int .i64 0, .int .i64 0, .int .i64 0, .int .i64 0]) (s := 5) (b := 48) (by kernel_rfl)
  obtain ⟨i0_68, hi_68, hz0_68, hz1_68, hz2_68⟩ := Aid.info_parts (P := Try.prog) (T := 68) (z := .slice none 0 0) (s := 1) (b := 24) (by kernel_rfl)
  go_enter Try.func63, Try.ntmps63
  replace H := bind_hid H
  obtain ⟨t_3, qt_3, H⟩ := H
  go_wp2_with fail
  go_at_call 68
  refine (Go.Proofs.Ytkinlkmmelkdnaa.GiAreShades.C (list) A0 c0 _   (Lib.hid (Cells.below M0.out HB.out)) N0 qt_3).mono ?_
  rintro e_t_3 wt_3 ⟨rfl, bt_3⟩
  have HBwt_3 := Lib.hid (Below.step HB.out bt_3)
  clear bt_3
  cases t_3 with
  | false =>
    replace H := let_hid H
    obtain ⟨t_4, ht_4, H⟩ := H
    obtain rfl : t_4 = true := ht_4.symm
    replace H := ite_t H
    obtain ⟨w_t_5, hw_t_5⟩ : ∃ x, wt_3.alloc (.cells #[] 68) = x := ⟨_, rfl⟩
    have bw_t_5 : Below wt_3.heap.size wt_3 w_t_5 := by rw [← hw_t_5]; exact (Below.refl _ _).alloc (Nat.le_refl _) _
    have Ot_5 : Hid (Go.Proofs.Ytkinlkmmelkdnaa.GoN.OwnNest w_t_5 (w.heap.size) 68 9 1 (fun z_ => z_.map Value.string) (some ⟨wt_3.heap.size, 0, none⟩) 0 ([] : List (List ByteArray)) [some ⟨wt_3.heap.size, 0, none⟩]) := Lib.hid (by rw [← hw_t_5]; exact Go.Proofs.Ytkinlkmmelkdnaa.GoN.nest_empty HBwt_3.out.size)
    have HBw_t_5 := Lib.hid (Below.step HBwt_3.out bw_t_5)
    clear bw_t_5
    cases ret_hid H
    go_wp2_with fail
    go_ret2
    exact ⟨(some ⟨wt_3.heap.size, 0, none⟩), 0, rfl, ⟨_, Ot_5.out⟩, HBw_t_5.out⟩
  | true =>
    replace H := let_hid H
    obtain ⟨t_4, ht_4, H⟩ := H
    obtain rfl : t_4 = false := ht_4.symm
    replace H := ite_f H
    obtain ⟨w_t_8, hw_t_8⟩ : ∃ x, wt_3.alloc (.cells #[] 68) = x := ⟨_, rfl⟩
    have bw_t_8 : Below wt_3.heap.size wt_3 w_t_8 := by rw [← hw_t_8]; exact (Below.refl _ _).alloc (Nat.le_refl _) _
    have Ot_8 : Hid (Go.Proofs.Ytkinlkmmelkdnaa.GoN.OwnNest w_t_8 (w.heap.size) 68 9 1 (fun z_ => z_.map Value.string) (some ⟨wt_3.heap.size, 0, none⟩) 0 ([] : List (List ByteArray)) [some ⟨wt_3.heap.size, 0, none⟩]) := Lib.hid (by rw [← hw_t_8]; exact Go.Proofs.Ytkinlkmmelkdnaa.GoN.nest_empty HBwt_3.out.size)
    have HBw_t_8 := Lib.hid (Below.step HBwt_3.out bw_t_8)
    clear bw_t_8
    go_wp2_with fail
    go_loopg [16, 4] (list.length) (fun m_ v16_ v4_ wr => ∃ (k0 : Nat) (pairs_4l0 : (List (List ByteArray))) (Apairs_4l0 : Option Addr) (cpairs_4l0 : Nat) (Bpairs_4l0 : List (Option Addr)), k0 + m_ = list.length ∧ v16_ = .int .i64 (k0 : Int) ∧ v4_ = .slice Apairs_4l0 pairs_4l0.length cpairs_4l0 ∧ Hid (cntK (l0 list) m_ k0 (pairs_4l0) (e0 ) = some (r0, r1)) ∧ Hid (Below w.heap.size w wr) ∧ Hid (Go.Proofs.Ytkinlkmmelkdnaa.GoN.OwnNest wr (w.heap.size) 68 9 1 (fun z_ => z_.map Value.string) Apairs_4l0 cpairs_4l0 pairs_4l0 Bpairs_4l0))
    case atStart => exact ⟨0, _, _, _, _, by omega, rfl, rfl, H, HBw_t_8, Ot_8⟩
    case round =>
      obtain ⟨k0, pairs_4l0, Apairs_4l0, cpairs_4l0, Bpairs_4l0, hkm0, rfl, rfl, H, HBwr0, Opairs_4l0⟩ := hrel
      rename World => wr0
      cases gk with
      | zero =>
        obtain rfl : k0 = list.length := by omega
        have hc0 : decide (((list.length : Nat) : Int) < ((list.length : Nat) : Int)) = false := by simp
        replace H := cnt_zero H
        unfold e0 at H
        replace H := let_hid H
        obtain ⟨_, rfl, H⟩ := H
        cases ret_hid H
        go_wp2_with fail
        go_ret2
        exact ⟨Apairs_4l0, cpairs_4l0, rfl, ⟨_, Opairs_4l0.out⟩, HBwr0.out⟩
      | succ m0 =>
        have hlt0 : k0 < list.length := by omega
        have hc0 : decide ((k0 : Int) < ((list.length : Nat) : Int)) = true := by simp; omega
        replace H := cnt_succ H
        unfold l0 at H
        replace H := let_hid H
        obtain ⟨_, rfl, H⟩ := H
        replace H := idx_hid H
        obtain ⟨nt_15, yt_15, et_15, lt_15, gt_15, H⟩ := H
        obtain rfl : k0 = nt_15 := by omega
        clear et_15
        obtain ⟨t_15_name, t_15_hue, t_15_width, t_15_dark, t_15_light⟩ := yt_15
        replace H := unShade_hid H
        obtain ⟨ab_t_15, ao_t_15, zt_15, At_15, z_t_15, ct_15_0, ct_15_1, ct_15_2, ct_15_3, ct_15_4⟩ := Go.Proofs.Ytkinlkmmelkdnaa.OShade.at_ M0.out lt_15
        obtain rfl := Option.some.inj (gt_15.out.symm.trans z_t_15)
        subst At_15
        have ltt_15 := cell_lt ct_15_0
        replace ct_15_0 := cell_below HBwr0.out ct_15_0
        replace ct_15_1 := cell_below HBwr0.out ct_15_1
        replace ct_15_2 := cell_below HBwr0.out ct_15_2
        replace ct_15_3 := cell_below HBwr0.out ct_15_3
        replace ct_15_4 := cell_below HBwr0.out ct_15_4
        clear z_t_15
        have b0t_15 : (0 : Int) ≤ (k0 : Int) := by omega
        have b1t_15 : (k0 : Int) < ((list.length : Nat) : Int) := by omega
        have b2t_15 : ((k0 : Int)).toNat = k0 := by omega
        obtain ⟨w_x_17, hw_x_17⟩ : ∃ x, wr0.alloc (.cells #[.string t_15_name, .int .i64 t_15_hue, .int .i64 t_15_width, .int .i64 t_15_dark, .int .i64 t_15_light] 74) = x := ⟨_, rfl⟩
        have bw_x_17 : Below wr0.heap.size wr0 w_x_17 := by rw [← hw_x_17]; exact (Below.refl _ _).alloc (Nat.le_refl _) _
        have Dx_17_pairs_4l0 := Lib.hid (Go.Proofs.Ytkinlkmmelkdnaa.GoN.nest_fresh Opairs_4l0.out)
        have HBw_x_17 := Lib.hid (Below.step HBwr0.out bw_x_17)
        have ct_15_0__551 := cell_below bw_x_17 ct_15_0
        have ct_15_1__552 := cell_below bw_x_17 ct_15_1
        have ct_15_2__553 := cell_below bw_x_17 ct_15_2
        have ct_15_3__554 := cell_below bw_x_17 ct_15_3
        have ct_15_4__555 := cell_below bw_x_17 ct_15_4
        replace Opairs_4l0 := Lib.hid (Go.Proofs.Ytkinlkmmelkdnaa.GoN.nest_below Opairs_4l0.out bw_x_17)
        clear bw_x_17
        have kx_17_0 : w_x_17.cell? ⟨wr0.heap.size, 0, none⟩ = some (.string t_15_name) := by rw [← hw_x_17]; exact box_new _ _ _ 0 _ rfl
        have kx_17_1 : w_x_17.cell? ⟨wr0.heap.size, 1, none⟩ = some (.int .i64 t_15_hue) := by rw [← hw_x_17]; exact box_new _ _ _ 1 _ rfl
        have kx_17_2 : w_x_17.cell? ⟨wr0.heap.size, 2, none⟩ = some (.int .i64 t_15_width) := by rw [← hw_x_17]; exact box_new _ _ _ 2 _ rfl
        have kx_17_3 : w_x_17.cell? ⟨wr0.heap.size, 3, none⟩ = some (.int .i64 t_15_dark) := by rw [← hw_x_17]; exact box_new _ _ _ 3 _ rfl
        have kx_17_4 : w_x_17.cell? ⟨wr0.heap.size, 4, none⟩ = some (.int .i64 t_15_light) := by rw [← hw_x_17]; exact box_new _ _ _ 4 _ rfl
        replace H := let_hid H
        obtain ⟨t_22, ht_22, H⟩ := H
        replace H := guard_hid H
        obtain ⟨hl_t_23, H⟩ := H
        replace H := let_hid H
        obtain ⟨t_23, ht_23, H⟩ := H
        have dt_23 : ((Go.Proofs.Ytkinlkmmelkdnaa.PShade.flat list)).drop (Int.toNat t_22 * 5) = (Go.Proofs.Ytkinlkmmelkdnaa.PShade.flat t_23) := by
          rw [← ht_23]
          exact flat_drop Go.Proofs.Ytkinlkmmelkdnaa.PShade.Shade.cells 5 (fun _ => rfl) _ _
        have nt_23 : list.length - Int.toNat t_22 = t_23.length := by rw [← ht_23, List.length_drop]
        obtain ⟨At_23, ct_23, rt_23, Mt_23, Qt_23⟩ := slice_tail (P := Try.prog) (t := 63) (e := 74) (k := .i64) (by kernel_rfl) (by kernel_rfl) hi_74 hz1_74 M0.out Q0.out hl_t_23 nt_23 dt_23
        have Nt_23 : Hid (t_23.length ≤ 9223372036854775807) := Lib.hid (by have := N0.out; omega)
        replace Mt_23 := Lib.hid Mt_23
        replace Qt_23 := Lib.hid Qt_23
        clear dt_23 nt_23 hl_t_23
        have hht_23 := Lib.hid ht_23
        clear ht_23
        have Not_23 := Nt_23.out
        go_wp2_with fail
        clear ct_15_0 ct_15_1 ct_15_2 ct_15_3 ct_15_4
        go_loopg [26, 4] (t_23.length) (fun m_ v26_ v4_ wr => ∃ (k1 : Nat) (pairs_4l1 : (List (List ByteArray))) (Apairs_4l1 : Option Addr) (cpairs_4l1 : Nat) (Bpairs_4l1 : List (Option Addr)), k1 + m_ = t_23.length ∧ v26_ = .int .i64 (k1 : Int) ∧ v4_ = .slice Apairs_4l1 pairs_4l1.length cpairs_4l1 ∧ Hid (cntK (l1 t_15_name t_15_hue t_15_width t_15_dark t_15_light t_23) m_ k1 (pairs_4l1) (e1 (fun s' => cntK (l0 list) m0 (k0 + 1) s' (e0 ))) = some (r0, r1)) ∧ Hid (Below w.heap.size w wr) ∧ wr.cell? ⟨wr0.heap.size, 0, none⟩ = some (.string t_15_name) ∧ wr.cell? ⟨wr0.heap.size, 1, none⟩ = some (.int .i64 t_15_hue) ∧ wr.cell? ⟨wr0.heap.size, 2, none⟩ = some (.int .i64 t_15_width) ∧ wr.cell? ⟨wr0.heap.size, 3, none⟩ = some (.int .i64 t_15_dark) ∧ wr.cell? ⟨wr0.heap.size, 4, none⟩ = some (.int .i64 t_15_light) ∧ Hid (Go.Proofs.Ytkinlkmmelkdnaa.GoN.OwnNest wr (w.heap.size) 68 9 1 (fun z_ => z_.map Value.string) Apairs_4l1 cpairs_4l1 pairs_4l1 Bpairs_4l1) ∧ Hid (∀ y_ ∈ Bpairs_4l1, Apart (some ⟨wr0.heap.size, 0, none⟩) y_))
        case atStart => exact ⟨0, _, _, _, _, by omega, rfl, rfl, H, HBw_x_17, kx_17_0, kx_17_1, kx_17_2, kx_17_3, kx_17_4, Opairs_4l0, Lib.hid Dx_17_pairs_4l0.out⟩
        case round =>
          obtain ⟨k1, pairs_4l1, Apairs_4l1, cpairs_4l1, Bpairs_4l1, hkm1, rfl, rfl, H, HBwr1, kx_17_0, kx_17_1, kx_17_2, kx_17_3, kx_17_4, Opairs_4l1, Dx_17_pairs_4l1⟩ := hrel
          rename World => wr1
          cases gk with
          | zero =>
            obtain rfl : k1 = t_23.length := by omega
            have hc1 : decide (((t_23.length : Nat) : Int) < ((t_23.length : Nat) : Int)) = false := by simp
            replace H := cnt_zero H
            unfold e1 at H
            replace H := let_hid H
            obtain ⟨_, rfl, H⟩ := H
            replace H := app_hid H
            go_wp2_with fail
            have hnx0_ : t_22 ≤ (k0 : Int) + 1 ∧ (k0 : Int) + 1 ≤ t_22 := by rw [← ht_22, IntWalk.i64_in _ (by omega)]; omega
            go_roundg m0
            case measure => omega
            case rel => exact ⟨k0 + 1, _, _, _, _, by omega, by go_num, rfl, H, HBwr1, Opairs_4l1⟩
          | succ m1 =>
            have hlt1 : k1 < t_23.length := by omega
            have hc1 : decide ((k1 : Int) < ((t_23.length : Nat) : Int)) = true := by simp; omega
            replace H := cnt_succ H
            unfold l1 at H
            replace H := let_hid H
            obtain ⟨_, rfl, H⟩ := H
            replace H := idx_hid H
            obtain ⟨nt_27, yt_27, et_27, lt_27, gt_27, H⟩ := H
            obtain rfl : k1 = nt_27 := by omega
            clear et_27
            obtain ⟨t_27_name, t_27_hue, t_27_width, t_27_dark, t_27_light⟩ := yt_27
            replace H := unShade_hid H
            obtain ⟨ab_t_27, ao_t_27, zt_27, At_27, z_t_27, ct_27_0, ct_27_1, ct_27_2, ct_27_3, ct_27_4⟩ := Go.Proofs.Ytkinlkmmelkdnaa.OShade.at_ Mt_23.out lt_27
            obtain rfl := Option.some.inj (gt_27.out.symm.trans z_t_27)
            subst At_27
            have ltt_27 := cell_lt ct_27_0
            replace ct_27_0 := cell_below HBwr1.out ct_27_0
            replace ct_27_1 := cell_below HBwr1.out ct_27_1
            replace ct_27_2 := cell_below HBwr1.out ct_27_2
            replace ct_27_3 := cell_below HBwr1.out ct_27_3
            replace ct_27_4 := cell_below HBwr1.out ct_27_4
            clear z_t_27
            have b0t_27 : (0 : Int) ≤ (k1 : Int) := by omega
            have b1t_27 : (k1 : Int) < ((t_23.length : Nat) : Int) := by omega
            have b2t_27 : ((k1 : Int)).toNat = k1 := by omega
            obtain ⟨w_y_29, hw_y_29⟩ : ∃ x, wr1.alloc (.cells #[.string t_27_name, .int .i64 t_27_hue, .int .i64 t_27_width, .int .i64 t_27_dark, .int .i64 t_27_light] 74) = x := ⟨_, rfl⟩
            have bw_y_29 : Below wr1.heap.size wr1 w_y_29 := by rw [← hw_y_29]; exact (Below.refl _ _).alloc (Nat.le_refl _) _
            have Dy_29_pairs_4l1 := Lib.hid (Go.Proofs.Ytkinlkmmelkdnaa.GoN.nest_fresh Opairs_4l1.out)
            have HBw_y_29 := Lib.hid (Below.step HBwr1.out bw_y_29)
            have kx_17_0__556 := cell_below bw_y_29 kx_17_0
            have kx_17_1__557 := cell_below bw_y_29 kx_17_1
            have kx_17_2__558 := cell_below bw_y_29 kx_17_2
            have kx_17_3__559 := cell_below bw_y_29 kx_17_3
            have kx_17_4__560 := cell_below bw_y_29 kx_17_4
            have ct_27_0__561 := cell_below bw_y_29 ct_27_0
            have ct_27_1__562 := cell_below bw_y_29 ct_27_1
            have ct_27_2__563 := cell_below bw_y_29 ct_27_2
            have ct_27_3__564 := cell_below bw_y_29 ct_27_3
            have ct_27_4__565 := cell_below bw_y_29 ct_27_4
            replace Opairs_4l1 := Lib.hid (Go.Proofs.Ytkinlkmmelkdnaa.GoN.nest_below Opairs_4l1.out bw_y_29)
            clear bw_y_29
            have ky_29_0 : w_y_29.cell? ⟨wr1.heap.size, 0, none⟩ = some (.string t_27_name) := by rw [← hw_y_29]; exact box_new _ _ _ 0 _ rfl
            have ky_29_1 : w_y_29.cell? ⟨wr1.heap.size, 1, none⟩ = some (.int .i64 t_27_hue) := by rw [← hw_y_29]; exact box_new _ _ _ 1 _ rfl
            have ky_29_2 : w_y_29.cell? ⟨wr1.heap.size, 2, none⟩ = some (.int .i64 t_27_width) := by rw [← hw_y_29]; exact box_new _ _ _ 2 _ rfl
            have ky_29_3 : w_y_29.cell? ⟨wr1.heap.size, 3, none⟩ = some (.int .i64 t_27_dark) := by rw [← hw_y_29]; exact box_new _ _ _ 3 _ rfl
            have ky_29_4 : w_y_29.cell? ⟨wr1.heap.size, 4, none⟩ = some (.int .i64 t_27_light) := by rw [← hw_y_29]; exact box_new _ _ _ 4 _ rfl
            replace H := bind_hid H
            obtain ⟨t_33, qt_33, H⟩ := H
            go_wp2_with fail
            clear kx_17_0 kx_17_1 kx_17_2 kx_17_3 kx_17_4 ct_27_0 ct_27_1 ct_27_2 ct_27_3 ct_27_4
            go_at_call 122
            refine (Go.Proofs.Ytkinlkmmelkdnaa.GiOverlaps.C ((Go.Proofs.Ytkinlkmmelkdnaa.PShade.Shade.mk t_15_name t_15_hue t_15_width t_15_dark t_15_light)) ((Go.Proofs.Ytkinlkmmelkdnaa.PShade.Shade.mk t_27_name t_27_hue t_27_width t_27_dark t_27_light))  _    qt_33).mono ?_
            rintro e_t_33 wt_33 ⟨rfl, bt_33⟩
            have HBwt_33 := Lib.hid (Below.step HBw_y_29.out bt_33)
            replace kx_17_0__556 := cell_below bt_33 kx_17_0__556
            replace kx_17_1__557 := cell_below bt_33 kx_17_1__557
            replace kx_17_2__558 := cell_below bt_33 kx_17_2__558
            replace kx_17_3__559 := cell_below bt_33 kx_17_3__559
            replace kx_17_4__560 := cell_below bt_33 kx_17_4__560
            replace ct_27_0__561 := cell_below bt_33 ct_27_0__561
            replace ct_27_1__562 := cell_below bt_33 ct_27_1__562
            replace ct_27_2__563 := cell_below bt_33 ct_27_2__563
            replace ct_27_3__564 := cell_below bt_33 ct_27_3__564
            replace ct_27_4__565 := cell_below bt_33 ct_27_4__565
            replace ky_29_0 := cell_below bt_33 ky_29_0
            replace ky_29_1 := cell_below bt_33 ky_29_1
            replace ky_29_2 := cell_below bt_33 ky_29_2
            replace ky_29_3 := cell_below bt_33 ky_29_3
            replace ky_29_4 := cell_below bt_33 ky_29_4
            replace Opairs_4l1 := Lib.hid (Go.Proofs.Ytkinlkmmelkdnaa.GoN.nest_below Opairs_4l1.out bt_33)
            clear bt_33
            cases t_33 with
            | false =>
              replace H := ite_f H
              replace H := app_hid H
              go_wp2_with fail
              go_roundg m1
              case measure => omega
              case rel => exact ⟨k1 + 1, _, _, _, _, by omega, by go_num, rfl, H, HBwt_33, kx_17_0__556, kx_17_1__557, kx_17_2__558, kx_17_3__559, kx_17_4__560, Opairs_4l1, Lib.hid Dx_17_pairs_4l1.out⟩
            | true =>
              replace H := ite_t H
              replace H := let_hid H
              obtain ⟨t_39, ht_39, H⟩ := H
              obtain ⟨w_t_39, hw_t_39⟩ : ∃ x, wt_33.alloc (.cells #[.string t_15_name, .string t_27_name] 9) = x := ⟨_, rfl⟩
              have bw_t_39 : Below wt_33.heap.size wt_33 w_t_39 := by rw [← hw_t_39]; exact (Below.refl _ _).alloc (Nat.le_refl _) _
              have hs_t_39 := HBwt_33.out.size
              have nt_39 : t_39.length = 2 := by rw [← ht_39]; rfl
              have Ot_39 : Hid (w_t_39.ownsRow w.heap.size 9 1 (.slice (some ⟨wt_33.heap.size, 0, none⟩) 2 2) 2 (t_39.map Value.string)) := by
                rw [← hw_t_39, ← ht_39]
                have e_ : ([.string t_15_name, .string t_27_name] : List Value) = (([t_15_name, t_27_name] : List ByteArray).map Value.string) := rfl
                exact Lib.hid (own_laid (n := 2) hs_t_39 e_ rfl (by unfold maxLen; omega))
              clear hs_t_39
              have hht_39 := Lib.hid ht_39
              clear ht_39
              replace nt_39 := Lib.hid nt_39
              have Dt_39_pairs_4l1 := Lib.hid (Go.Proofs.Ytkinlkmmelkdnaa.GoN.nest_fresh Opairs_4l1.out)
              have Dt_39_x_17 := Lib.hid (apart_box kx_17_0__556)
              have Dt_39_y_29 := Lib.hid (apart_box ky_29_0)
              have HBw_t_39 := Lib.hid (Below.step HBwt_33.out bw_t_39)
              have kx_17_0__566 := cell_below bw_t_39 kx_17_0__556
              have kx_17_1__567 := cell_below bw_t_39 kx_17_1__557
              have kx_17_2__568 := cell_below bw_t_39 kx_17_2__558
              have kx_17_3__569 := cell_below bw_t_39 kx_17_3__559
              have kx_17_4__570 := cell_below bw_t_39 kx_17_4__560
              have ct_27_0__571 := cell_below bw_t_39 ct_27_0__561
              have ct_27_1__572 := cell_below bw_t_39 ct_27_1__562
              have ct_27_2__573 := cell_below bw_t_39 ct_27_2__563
              have ct_27_3__574 := cell_below bw_t_39 ct_27_3__564
              have ct_27_4__575 := cell_below bw_t_39 ct_27_4__565
              have ky_29_0__576 := cell_below bw_t_39 ky_29_0
              have ky_29_1__577 := cell_below bw_t_39 ky_29_1
              have ky_29_2__578 := cell_below bw_t_39 ky_29_2
              have ky_29_3__579 := cell_below bw_t_39 ky_29_3
              have ky_29_4__580 := cell_below bw_t_39 ky_29_4
              replace Opairs_4l1 := Lib.hid (Go.Proofs.Ytkinlkmmelkdnaa.GoN.nest_below Opairs_4l1.out bw_t_39)
              clear bw_t_39
              obtain ⟨w_t_40, hw_t_40⟩ : ∃ x, w_t_39.alloc (.cells #[.slice (some ⟨wt_33.heap.size, 0, none⟩) 2 2] 68) = x := ⟨_, rfl⟩
              have bw_t_40 : Below w_t_39.heap.size w_t_39 w_t_40 := by rw [← hw_t_40]; exact (Below.refl _ _).alloc (Nat.le_refl _) _
              have HBw_t_40 := Lib.hid (Below.step HBw_t_39.out bw_t_40)
              have kx_17_0__581 := cell_below bw_t_40 kx_17_0__566
              have kx_17_1__582 := cell_below bw_t_40 kx_17_1__567
              have kx_17_2__583 := cell_below bw_t_40 kx_17_2__568
              have kx_17_3__584 := cell_below bw_t_40 kx_17_3__569
              have kx_17_4__585 := cell_below bw_t_40 kx_17_4__570
              have ct_27_0__586 := cell_below bw_t_40 ct_27_0__571
              have ct_27_1__587 := cell_below bw_t_40 ct_27_1__572
              have ct_27_2__588 := cell_below bw_t_40 ct_27_2__573
              have ct_27_3__589 := cell_below bw_t_40 ct_27_3__574
              have ct_27_4__590 := cell_below bw_t_40 ct_27_4__575
              have ky_29_0__591 := cell_below bw_t_40 ky_29_0__576
              have ky_29_1__592 := cell_below bw_t_40 ky_29_1__577
              have ky_29_2__593 := cell_below bw_t_40 ky_29_2__578
              have ky_29_3__594 := cell_below bw_t_40 ky_29_3__579
              have ky_29_4__595 := cell_below bw_t_40 ky_29_4__580
              replace Opairs_4l1 := Lib.hid (Go.Proofs.Ytkinlkmmelkdnaa.GoN.nest_below Opairs_4l1.out bw_t_40)
              replace Ot_39 := Lib.hid (own_below Ot_39.out bw_t_40)
              clear bw_t_40
              replace H := guard_hid H
              obtain ⟨hlt_41, H⟩ := H
              replace H := let_hid H
              obtain ⟨t_41, ht_41, H⟩ := H
              have hht_41 := Lib.hid ht_41
              clear ht_41
              have hst_41 := HBw_t_40.out.size
              obtain ⟨zt_41, h1t_41, h2t_41, h3t_41, h4t_41, h5t_41⟩ := Opairs_4l1.out
              have h1t_41i := Lib.hid h1t_41
              have h3t_41i := Lib.hid h3t_41
              have h4t_41i := Lib.hid h4t_41
              have h5t_41i := Lib.hid h5t_41
              clear h1t_41 h3t_41 h4t_41 h5t_41
              have h2t_41i := Lib.hid h2t_41
              clear h2t_41
              have hq_t_41 : Hid ((Value.slice (some ⟨wt_33.heap.size, 0, none⟩) 2 2 : Value) = Value.slice (some ⟨wt_33.heap.size, 0, none⟩) t_39.length 2) := Lib.hid (by rw [show t_39.length = 2 from nt_39.out])
              go_wp2_with (at_builtin; refine wpList_append_own_at _ rfl _ _ 80 rfl w.heap.size 68 i0_68 (.slice none 0 0) 1 24 Try.underlying80 hi_68 hz0_68 hz1_68 hz2_68 rfl (by decide) _ _ _ rfl h2t_41i.out ⟨w_t_39.heap.size, 0, none⟩ 1 1 [.slice (some ⟨wt_33.heap.size, 0, none⟩) 2 2] rfl rfl (news_new hw_t_40) (one_cells rfl) (by unfold maxLen; omega) (by omega) hst_41 ?_; intro vt_41 wt_41 ot_41 gt_41 ut_41 yt_41; clear ut_41; rw [hq_t_41.out] at ot_41; obtain ⟨qt_41, ct_41, Bt_41, rfl, pt_41, dt_41, rt_41⟩ := Go.Proofs.Ytkinlkmmelkdnaa.GoN.nest_app hht_41.out h1t_41i.out h4t_41i.out h3t_41i.out h5t_41i.out (own_len nt_39.out Ot_39.out) Dt_39_pairs_4l1.out gt_41 ot_41 yt_41; have Pt_41 := Lib.hid pt_41; have Ut_41 := Lib.hid dt_41; have Rt_41 := Lib.hid rt_41; have Gt_41 := Lib.hid gt_41; clear ot_41 gt_41 pt_41 yt_41 dt_41 rt_41; refine stop_in ?_)
              refine stop_out ?_
              have HBwt_41 := Lib.hid (HBw_t_40.out.grown Gt_41.out hst_41 (fun q hq => (h2t_41i.out.lt q hq).1))
              clear hst_41
              have Dt_41_x_17 : Hid (∀ y_ ∈ Bt_41, Apart (some ⟨wr0.heap.size, 0, none⟩) y_) := Lib.hid (Go.Proofs.Ytkinlkmmelkdnaa.GoN.apart_push Dx_17_pairs_4l1.out (Apart.symm Dt_39_x_17.out) (fun a_ ha_ => by cases ha_; exact cell_lt kx_17_0__581) Ut_41.out)
              have Dt_41_y_29 : Hid (∀ y_ ∈ Bt_41, Apart (some ⟨wr1.heap.size, 0, none⟩) y_) := Lib.hid (Go.Proofs.Ytkinlkmmelkdnaa.GoN.apart_push Dy_29_pairs_4l1.out (Apart.symm Dt_39_y_29.out) (fun a_ ha_ => by cases ha_; exact cell_lt ky_29_0__591) Ut_41.out)
              replace kx_17_0__581 := cell_other kx_17_0__581 Gt_41.out (Apart.symm (Dx_17_pairs_4l1.out _ (Go.Proofs.Ytkinlkmmelkdnaa.GoN.nest_head Opairs_4l1.out)))
              replace kx_17_1__582 := cell_other kx_17_1__582 Gt_41.out (Apart.symm (Dx_17_pairs_4l1.out _ (Go.Proofs.Ytkinlkmmelkdnaa.GoN.nest_head Opairs_4l1.out)))
              replace kx_17_2__583 := cell_other kx_17_2__583 Gt_41.out (Apart.symm (Dx_17_pairs_4l1.out _ (Go.Proofs.Ytkinlkmmelkdnaa.GoN.nest_head Opairs_4l1.out)))
              replace kx_17_3__584 := cell_other kx_17_3__584 Gt_41.out (Apart.symm (Dx_17_pairs_4l1.out _ (Go.Proofs.Ytkinlkmmelkdnaa.GoN.nest_head Opairs_4l1.out)))
              replace kx_17_4__585 := cell_other kx_17_4__585 Gt_41.out (Apart.symm (Dx_17_pairs_4l1.out _ (Go.Proofs.Ytkinlkmmelkdnaa.GoN.nest_head Opairs_4l1.out)))
              replace ct_27_0__586 := cell_other ct_27_0__586 Gt_41.out (apart_old h2t_41i.out ltt_27)
              replace ct_27_1__587 := cell_other ct_27_1__587 Gt_41.out (apart_old h2t_41i.out ltt_27)
              replace ct_27_2__588 := cell_other ct_27_2__588 Gt_41.out (apart_old h2t_41i.out ltt_27)
              replace ct_27_3__589 := cell_other ct_27_3__589 Gt_41.out (apart_old h2t_41i.out ltt_27)
              replace ct_27_4__590 := cell_other ct_27_4__590 Gt_41.out (apart_old h2t_41i.out ltt_27)
              replace ky_29_0__591 := cell_other ky_29_0__591 Gt_41.out (Apart.symm (Dy_29_pairs_4l1.out _ (Go.Proofs.Ytkinlkmmelkdnaa.GoN.nest_head Opairs_4l1.out)))
              replace ky_29_1__592 := cell_other ky_29_1__592 Gt_41.out (Apart.symm (Dy_29_pairs_4l1.out _ (Go.Proofs.Ytkinlkmmelkdnaa.GoN.nest_head Opairs_4l1.out)))
              replace ky_29_2__593 := cell_other ky_29_2__593 Gt_41.out (Apart.symm (Dy_29_pairs_4l1.out _ (Go.Proofs.Ytkinlkmmelkdnaa.GoN.nest_head Opairs_4l1.out)))
              replace ky_29_3__594 := cell_other ky_29_3__594 Gt_41.out (Apart.symm (Dy_29_pairs_4l1.out _ (Go.Proofs.Ytkinlkmmelkdnaa.GoN.nest_head Opairs_4l1.out)))
              replace ky_29_4__595 := cell_other ky_29_4__595 Gt_41.out (Apart.symm (Dy_29_pairs_4l1.out _ (Go.Proofs.Ytkinlkmmelkdnaa.GoN.nest_head Opairs_4l1.out)))
              replace Ot_39 := Lib.hid (own_other Ot_39.out Gt_41.out (Apart.symm (Dt_39_pairs_4l1.out _ (Go.Proofs.Ytkinlkmmelkdnaa.GoN.nest_head Opairs_4l1.out))))
              clear kx_17_0__556 kx_17_1__557 kx_17_2__558 kx_17_3__559 kx_17_4__560 ct_27_0__561 ct_27_1__562 ct_27_2__563 ct_27_3__564 ct_27_4__565 ky_29_0 ky_29_1 ky_29_2 ky_29_3 ky_29_4 kx_17_0__566 kx_17_1__567 kx_17_2__568 kx_17_3__569 kx_17_4__570 ct_27_0__571 ct_27_1__572 ct_27_2__573 ct_27_3__574 ct_27_4__575 ky_29_0__576 ky_29_1__577 ky_29_2__578 ky_29_3__579 ky_29_4__580
              clear Opairs_4l1 Gt_41 h1t_41i h2t_41i h3t_41i h4t_41i h5t_41i
              clear Ot_39
              have mmt_41 := Lib.hid Ut_41.out.2.1
              clear Ut_41
              clear Rt_41 mmt_41
              replace H := app_hid H
              go_wp2_with fail
              go_roundg m1
              case measure => omega
              case rel => exact ⟨k1 + 1, _, _, _, _, by omega, by go_num, rfl, H, HBwt_41, kx_17_0__581, kx_17_1__582, kx_17_2__583, kx_17_3__584, kx_17_4__585, Pt_41, Lib.hid Dt_41_x_17.out⟩
end Go.Proofs.Ytkinlkmmelkdnaa.GiOverlapPairs

/- loop.example/g01062/spec.OverlapPairs as a plain function, and the contract of the program's: where the plain one has an answer, the program has it. Conditions: slices read as lists. -/
namespace Go.Proofs.Ytkinlkmmelkdnaa.GsOverlapPairs
set_option linter.unusedVariables false
set_option linter.unusedSimpArgs false
open Go.RowKit
open Go.Proofs.Ytkinlkmmelkdnaa.Rowed Go.Proofs.Ytkinlkmmelkdnaa.Turn Go.Proofs.Ytkinlkmmelkdnaa.Aid Go.Proofs.Ytkinlkmmelkdnaa.GoP Go.Proofs.Ytkinlkmmelkdnaa.GoM

def l1 (list : (List Go.Proofs.Ytkinlkmmelkdnaa.PShade.Shade)) (k0 : Nat) (s : (List (List ByteArray)) × Int) (nx1 bk1 : (List (List ByteArray)) × Int → Option ((List (List ByteArray)) × Bool)) : Option ((List (List ByteArray)) × Bool) :=
  unp2 s fun out_4l1 k_6l1 =>
  letK (decide (k_6l1 < (list.length : Int))) fun (t_21 : Bool) =>
  iteK t_21
  (Option.bind (idx list (k0 : Int)) fun (yt_24 : Go.Proofs.Ytkinlkmmelkdnaa.PShade.Shade) =>
  unShade yt_24 fun (t_24_name : ByteArray) (t_24_hue : Int) (t_24_width : Int) (t_24_dark : Int) (t_24_light : Int) =>
  Option.bind (idx list k_6l1) fun (yt_28 : Go.Proofs.Ytkinlkmmelkdnaa.PShade.Shade) =>
  unShade yt_28 fun (t_28_name : ByteArray) (t_28_hue : Int) (t_28_width : Int) (t_28_dark : Int) (t_28_light : Int) =>
  Option.bind (Go.Proofs.Ytkinlkmmelkdnaa.GsL7Meet.P (Go.Proofs.Ytkinlkmmelkdnaa.PShade.Shade.mk t_24_name t_24_hue t_24_width t_24_dark t_24_light) (Go.Proofs.Ytkinlkmmelkdnaa.PShade.Shade.mk t_28_name t_28_hue t_28_width t_28_dark t_28_light)) fun (t_30 : Bool) =>
  iteK t_30
  (Option.bind (idx list (k0 : Int)) fun (yt_34 : Go.Proofs.Ytkinlkmmelkdnaa.PShade.Shade) =>
  unShade yt_34 fun (t_34_name : ByteArray) (t_34_hue : Int) (t_34_width : Int) (t_34_dark : Int) (t_34_light : Int) =>
  Option.bind (idx list k_6l1) fun (yt_39 : Go.Proofs.Ytkinlkmmelkdnaa.PShade.Shade) =>
  unShade yt_39 fun (t_39_name : ByteArray) (t_39_hue : Int) (t_39_width : Int) (t_39_dark : Int) (t_39_light : Int) =>
  letK ([t_34_name, t_39_name]) fun (t_42 : (List ByteArray)) =>
  guardK (out_4l1.length ≤ 1099511627776) <|
  letK (out_4l1 ++ [t_42]) fun (t_44 : (List (List ByteArray))) =>
  letK (IntKind.i64.wrap (k_6l1 + 1)) fun (t_47 : Int) =>
  appK nx1 (t_44, t_47))
  (letK (IntKind.i64.wrap (k_6l1 + 1)) fun (t_47 : Int) =>
  appK nx1 (out_4l1, t_47)))
  (appK bk1 (out_4l1, k_6l1))

def e1 (nx0 : ((List (List ByteArray))) → Option ((List (List ByteArray)) × Bool)) (s : (List (List ByteArray)) × Int) : Option ((List (List ByteArray)) × Bool) :=
  unp2 s fun out_4l1 k_6l1 =>
  appK nx0 (out_4l1)

def l0 (list : (List Go.Proofs.Ytkinlkmmelkdnaa.PShade.Shade)) (fuel : Nat) (k0 : Nat) (s : (List (List ByteArray))) (nx0 bk0 : (List (List ByteArray)) → Option ((List (List ByteArray)) × Bool)) : Option ((List (List ByteArray)) × Bool) :=
  letK s fun out_4l0 =>
  letK (IntKind.i64.wrap ((k0 : Int) + 1)) fun (t_16 : Int) =>
  loopK (l1 list k0) fuel (out_4l0, t_16) (e1 nx0)

def e0  (s : (List (List ByteArray))) : Option ((List (List ByteArray)) × Bool) :=
  letK s fun out_4l0 =>
  some (out_4l0, true)

def P (fuel : Nat) (list : (List Go.Proofs.Ytkinlkmmelkdnaa.PShade.Shade)) : Option ((List (List ByteArray)) × Bool) :=
  Option.bind (Go.Proofs.Ytkinlkmmelkdnaa.GsL7Good.P list) fun (t_5 : Bool) =>
  letK (!t_5) fun (t_6 : Bool) =>
  iteK t_6
  (some (([] : List (List ByteArray)), false))
  (cntK (l0 list fuel) (list.length) 0 (([] : List (List ByteArray))) (e0 ))

set_option maxRecDepth 100000 in
set_option maxHeartbeats 2000000 in
theorem C (fuel : Nat) (list : (List Go.Proofs.Ytkinlkmmelkdnaa.PShade.Shade)) (A0 : Option Addr) (c0 : Nat)  (w : World) (M0 : Hid (Cells w 5 A0 list.length (Go.Proofs.Ytkinlkmmelkdnaa.PShade.flat list))) (N0 : Hid (list.length ≤ 9223372036854775807))  {r0 : (List (List ByteArray))} {r1 : Bool} (H : Hid (P fuel list = some (r0, r1))) :
    Calls Try.prog 64 #[.slice A0 list.length c0] w (fun e w' => ∃ A_r0 c_r0, e = .returned (.tuple #[.slice A_r0 r0.length c_r0, .bool r1]) ∧ (∃ B_, Go.Proofs.Ytkinlkmmelkdnaa.GoN.OwnNest w' (w.heap.size) 68 9 1 (fun z_ => z_.map Value.string) A_r0 c_r0 r0 B_) ∧ Below w.heap.size w w') := by
  have HB := Lib.hid (Below.refl w.heap.size w)
  unfold P at H
  have N0o := N0.out
  obtain ⟨i0_68, hi_68, hz0_68, hz1_68, hz2_68⟩ := Aid.info_parts (P := Try.prog) (T := 68) (z := .slice none 0 0) (s := 1) (b := 24) (by kernel_rfl)
  go_enter Try.func64, Try.ntmps64
  obtain ⟨w_t_2, hw_t_2⟩ : ∃ x, w.alloc (.cells #[] 68) = x := ⟨_, rfl⟩
  have bw_t_2 : Below w.heap.size w w_t_2 := by rw [← hw_t_2]; exact (Below.refl _ _).alloc (Nat.le_refl _) _
  have Ot_2 : Hid (Go.Proofs.Ytkinlkmmelkdnaa.GoN.OwnNest w_t_2 (w.heap.size) 68 9 1 (fun z_ => z_.map Value.string) (some ⟨w.heap.size, 0, none⟩) 0 ([] : List (List ByteArray)) [some ⟨w.heap.size, 0, none⟩]) := Lib.hid (by rw [← hw_t_2]; exact Go.Proofs.Ytkinlkmmelkdnaa.GoN.nest_empty HB.out.size)
  have HBw_t_2 := Lib.hid (Below.step HB.out bw_t_2)
  clear bw_t_2
  replace H := bind_hid H
  obtain ⟨t_5, qt_5, H⟩ := H
  go_wp2_with fail
  go_at_call 113
  refine (Go.Proofs.Ytkinlkmmelkdnaa.GsL7Good.C (list) A0 c0 _   (Lib.hid (Cells.below M0.out HBw_t_2.out)) N0 qt_5).mono ?_
  rintro e_t_5 wt_5 ⟨rfl, bt_5⟩
  have HBwt_5 := Lib.hid (Below.step HBw_t_2.out bt_5)
  replace Ot_2 := Lib.hid (Go.Proofs.Ytkinlkmmelkdnaa.GoN.nest_below Ot_2.out bt_5)
  clear bt_5
  cases t_5 with
  | false =>
    replace H := let_hid H
    obtain ⟨t_6, ht_6, H⟩ := H
    obtain rfl : t_6 = true := ht_6.symm
    replace H := ite_t H
    cases ret_hid H
    go_wp2_with fail
    go_ret2
    exact ⟨(some ⟨w.heap.size, 0, none⟩), 0, rfl, ⟨_, Ot_2.out⟩, HBwt_5.out⟩
  | true =>
    replace H := let_hid H
    obtain ⟨t_6, ht_6, H⟩ := H
    obtain rfl : t_6 = false := ht_6.symm
    replace H := ite_f H
    go_wp2_with fail
    go_loopg [5, 4] (list.length) (fun m_ v5_ v4_ wr => ∃ (k0 : Nat) (out_4l0 : (List (List ByteArray))) (Aout_4l0 : Option Addr) (cout_4l0 : Nat) (Bout_4l0 : List (Option Addr)), k0 + m_ = list.length ∧ v5_ = .int .i64 (k0 : Int) ∧ v4_ = .slice Aout_4l0 out_4l0.length cout_4l0 ∧ Hid (cntK (l0 list fuel) m_ k0 (out_4l0) (e0 ) = some (r0, r1)) ∧ Hid (Below w.heap.size w wr) ∧ Hid (Go.Proofs.Ytkinlkmmelkdnaa.GoN.OwnNest wr (w.heap.size) 68 9 1 (fun z_ => z_.map Value.string) Aout_4l0 cout_4l0 out_4l0 Bout_4l0))
    case atStart => exact ⟨0, _, _, _, _, by omega, rfl, rfl, H, HBwt_5, Ot_2⟩
    case round =>
      obtain ⟨k0, out_4l0, Aout_4l0, cout_4l0, Bout_4l0, hkm0, rfl, rfl, H, HBwr0, Oout_4l0⟩ := hrel
      rename World => wr0
      cases gk with
      | zero =>
        obtain rfl : k0 = list.length := by omega
        have hc0 : decide (((list.length : Nat) : Int) < ((list.length : Nat) : Int)) = false := by simp
        replace H := cnt_zero H
        unfold e0 at H
        replace H := let_hid H
        obtain ⟨_, rfl, H⟩ := H
        cases ret_hid H
        go_wp2_with fail
        go_ret2
        exact ⟨Aout_4l0, cout_4l0, rfl, ⟨_, Oout_4l0.out⟩, HBwr0.out⟩
      | succ m0 =>
        have hlt0 : k0 < list.length := by omega
        have hc0 : decide ((k0 : Int) < ((list.length : Nat) : Int)) = true := by simp; omega
        replace H := cnt_succ H
        unfold l0 at H
        replace H := let_hid H
        obtain ⟨_, rfl, H⟩ := H
        replace H := let_hid H
        obtain ⟨t_16, ht_16, H⟩ := H
        go_wp2_with fail
        go_loopg [4, 6] (fuel) (fun m_ v4_ v6_ wr => ∃ (out_4l1 : (List (List ByteArray))) (k_6l1 : Int) (Aout_4l1 : Option Addr) (cout_4l1 : Nat) (Bout_4l1 : List (Option Addr)), v4_ = .slice Aout_4l1 out_4l1.length cout_4l1 ∧ v6_ = .int .i64 k_6l1 ∧ Hid (loopK (l1 list k0) m_ (out_4l1, k_6l1) (e1 (fun s' => cntK (l0 list fuel) m0 (k0 + 1) s' (e0 ))) = some (r0, r1)) ∧ Hid (Below w.heap.size w wr) ∧ Hid (Go.Proofs.Ytkinlkmmelkdnaa.GoN.OwnNest wr (w.heap.size) 68 9 1 (fun z_ => z_.map Value.string) Aout_4l1 cout_4l1 out_4l1 Bout_4l1))
        case atStart => exact ⟨_, _, _, _, _, rfl, rfl, H, HBwr0, Oout_4l0⟩
        case round =>
          obtain ⟨out_4l1, k_6l1, Aout_4l1, cout_4l1, Bout_4l1, rfl, rfl, H, HBwr1, Oout_4l1⟩ := hrel
          rename World => wr1
          cases gk with
          | zero => exact (loop_zero H).elim
          | succ m1 =>
            replace H := loop_succ H
            unfold l1 at H
            replace H := unp2_hid H
            replace H := let_hid H
            obtain ⟨t_21, ht_21, H⟩ := H
            cases t_21 with
            | false =>
              replace H := ite_f H
              replace H := app_hid H
              unfold e1 at H
              replace H := unp2_hid H
              replace H := app_hid H
              go_wp2_with fail
              have hnx0_ : t_16 ≤ (k0 : Int) + 1 ∧ (k0 : Int) + 1 ≤ t_16 := by rw [← ht_16, IntWalk.i64_in _ (by omega)]; omega
              go_roundg m0
              case measure => omega
              case rel => exact ⟨k0 + 1, _, _, _, _, by omega, by go_num, rfl, H, HBwr1, Oout_4l1⟩
            | true =>
              replace H := ite_t H
              go_wp2_with fail
              replace H := idx_hid H
              obtain ⟨nt_24, yt_24, et_24, lt_24, gt_24, H⟩ := H
              obtain rfl : k0 = nt_24 := by omega
              clear et_24
              obtain ⟨t_24_name, t_24_hue, t_24_width, t_24_dark, t_24_light⟩ := yt_24
              replace H := unShade_hid H
              obtain ⟨ab_t_24, ao_t_24, zt_24, At_24, z_t_24, ct_24_0, ct_24_1, ct_24_2, ct_24_3, ct_24_4⟩ := Go.Proofs.Ytkinlkmmelkdnaa.OShade.at_ M0.out lt_24
              obtain rfl := Option.some.inj (gt_24.out.symm.trans z_t_24)
              subst At_24
              have ltt_24 := cell_lt ct_24_0
              replace ct_24_0 := cell_below HBwr1.out ct_24_0
              replace ct_24_1 := cell_below HBwr1.out ct_24_1
              replace ct_24_2 := cell_below HBwr1.out ct_24_2
              replace ct_24_3 := cell_below HBwr1.out ct_24_3
              replace ct_24_4 := cell_below HBwr1.out ct_24_4
              clear z_t_24
              have b0t_24 : (0 : Int) ≤ (k0 : Int) := by omega
              have b1t_24 : (k0 : Int) < ((list.length : Nat) : Int) := by omega
              have b2t_24 : ((k0 : Int)).toNat = k0 := by omega
              have Hct_24_0 := Lib.hid ct_24_0
              replace ct_24_0 := cell_regrown ct_24_0
              have Hct_24_1 := Lib.hid ct_24_1
              replace ct_24_1 := cell_regrown ct_24_1
              have Hct_24_2 := Lib.hid ct_24_2
              replace ct_24_2 := cell_regrown ct_24_2
              have Hct_24_3 := Lib.hid ct_24_3
              replace ct_24_3 := cell_regrown ct_24_3
              have Hct_24_4 := Lib.hid ct_24_4
              replace ct_24_4 := cell_regrown ct_24_4
              replace H := idx_hid H
              obtain ⟨nt_28, yt_28, et_28, lt_28, gt_28, H⟩ := H
              subst et_28
              have nc_596 : nt_28 < list.length := by have := of_decide_eq_true ht_21; omega
              obtain ⟨t_28_name, t_28_hue, t_28_width, t_28_dark, t_28_light⟩ := yt_28
              replace H := unShade_hid H
              obtain ⟨ab_t_28, ao_t_28, zt_28, At_28, z_t_28, ct_28_0, ct_28_1, ct_28_2, ct_28_3, ct_28_4⟩ := Go.Proofs.Ytkinlkmmelkdnaa.OShade.at_ M0.out lt_28
              obtain rfl := Option.some.inj (gt_28.out.symm.trans z_t_28)
              simp only [Option.some.injEq, Addr.mk.injEq] at At_28
              obtain ⟨rfl, rfl, _⟩ := At_28
              have ltt_28 := cell_lt ct_28_0
              replace ct_28_0 := cell_below HBwr1.out ct_28_0
              replace ct_28_1 := cell_below HBwr1.out ct_28_1
              replace ct_28_2 := cell_below HBwr1.out ct_28_2
              replace ct_28_3 := cell_below HBwr1.out ct_28_3
              replace ct_28_4 := cell_below HBwr1.out ct_28_4
              clear z_t_28
              have b0t_28 : (0 : Int) ≤ (nt_28 : Int) := by omega
              have b1t_28 : (nt_28 : Int) < ((list.length : Nat) : Int) := by omega
              have b2t_28 : ((nt_28 : Int)).toNat = nt_28 := by omega
              have Hct_28_0 := Lib.hid ct_28_0
              replace ct_28_0 := cell_regrown ct_28_0
              have Hct_28_1 := Lib.hid ct_28_1
              replace ct_28_1 := cell_regrown ct_28_1
              have Hct_28_2 := Lib.hid ct_28_2
              replace ct_28_2 := cell_regrown ct_28_2
              have Hct_28_3 := Lib.hid ct_28_3
              replace ct_28_3 := cell_regrown ct_28_3
              have Hct_28_4 := Lib.hid ct_28_4
              replace ct_28_4 := cell_regrown ct_28_4
              replace H := bind_hid H
              obtain ⟨t_30, qt_30, H⟩ := H
              have nt_30 : ∀ d os, Calls Try.prog 124 #[.agg #[.string t_24_name, .int .i64 t_24_hue, .int .i64 t_24_width, .int .i64 t_24_dark, .int .i64 t_24_light], .agg #[.string t_28_name, .int .i64 t_28_hue, .int .i64 t_28_width, .int .i64 t_28_dark, .int .i64 t_28_light]] (Go.Sort.grow (redrawn wr1 d) os) fun e w'' => e = .returned (.bool t_30) ∧ ∃ p : Regrown, w'' = Go.Sort.grow (redrawn wr1 p.d) p.os := fun d os => Calls.regrown_of (Go.Proofs.Ytkinlkmmelkdnaa.GsL7Meet.C ((Go.Proofs.Ytkinlkmmelkdnaa.PShade.Shade.mk t_24_name t_24_hue t_24_width t_24_dark t_24_light)) ((Go.Proofs.Ytkinlkmmelkdnaa.PShade.Shade.mk t_28_name t_28_hue t_28_width t_28_dark t_28_light))  _    qt_30)
              refine wp_region_quiet_below (by kernel_rfl) (by kernel_rfl) ?_
              repeat (go_big_quiet_step (first | (go_at_call 124; exact nt_30 _ _)))
              refine wpQuiet_nil ?_
              intro Y10 hY10
              replace hY10 := below_class hY10
              clear nt_30
              replace ct_24_0 := Hct_24_0.out
              clear Hct_24_0
              replace ct_24_1 := Hct_24_1.out
              clear Hct_24_1
              replace ct_24_2 := Hct_24_2.out
              clear Hct_24_2
              replace ct_24_3 := Hct_24_3.out
              clear Hct_24_3
              replace ct_24_4 := Hct_24_4.out
              clear Hct_24_4
              replace ct_28_0 := Hct_28_0.out
              clear Hct_28_0
              replace ct_28_1 := Hct_28_1.out
              clear Hct_28_1
              replace ct_28_2 := Hct_28_2.out
              clear Hct_28_2
              replace ct_28_3 := Hct_28_3.out
              clear Hct_28_3
              replace ct_28_4 := Hct_28_4.out
              clear Hct_28_4
              have HBY10 := Lib.hid (Below.step HBwr1.out hY10)
              replace ct_24_0 := cell_below hY10 ct_24_0
              replace ct_24_1 := cell_below hY10 ct_24_1
              replace ct_24_2 := cell_below hY10 ct_24_2
              replace ct_24_3 := cell_below hY10 ct_24_3
              replace ct_24_4 := cell_below hY10 ct_24_4
              replace ct_28_0 := cell_below hY10 ct_28_0
              replace ct_28_1 := cell_below hY10 ct_28_1
              replace ct_28_2 := cell_below hY10 ct_28_2
              replace ct_28_3 := cell_below hY10 ct_28_3
              replace ct_28_4 := cell_below hY10 ct_28_4
              replace Oout_4l1 := Lib.hid (Go.Proofs.Ytkinlkmmelkdnaa.GoN.nest_below Oout_4l1.out hY10)
              clear hY10
              cases t_30 with
              | false =>
                replace H := ite_f H
                replace H := let_hid H
                obtain ⟨t_47, ht_47, H⟩ := H
                replace H := app_hid H
                go_wp2_with fail
                go_roundg m1
                case measure => omega
                case rel => exact ⟨_, _, _, _, _, rfl, rfl, H, HBY10, Oout_4l1⟩
              | true =>
                replace H := ite_t H
                go_wp2_with fail
                have bd11 : Below Y10.heap.size Y10 Y10.drew := (Below.refl _ _).drew
                have HBY10.drew := Lib.hid (Below.step HBY10.out bd11)
                replace ct_24_0 := cell_below bd11 ct_24_0
                replace ct_24_1 := cell_below bd11 ct_24_1
                replace ct_24_2 := cell_below bd11 ct_24_2
                replace ct_24_3 := cell_below bd11 ct_24_3
                replace ct_24_4 := cell_below bd11 ct_24_4
                replace ct_28_0 := cell_below bd11 ct_28_0
                replace ct_28_1 := cell_below bd11 ct_28_1
                replace ct_28_2 := cell_below bd11 ct_28_2
                replace ct_28_3 := cell_below bd11 ct_28_3
                replace ct_28_4 := cell_below bd11 ct_28_4
                replace Oout_4l1 := Lib.hid (Go.Proofs.Ytkinlkmmelkdnaa.GoN.nest_below Oout_4l1.out bd11)
                clear bd11
                replace H := idx_hid H
                obtain ⟨nt_34, yt_34, et_34, lt_34, gt_34, H⟩ := H
                obtain rfl : k0 = nt_34 := by omega
                clear et_34
                obtain rfl := Option.some.inj (gt_24.out.symm.trans gt_34.out)
                clear gt_34 lt_34
                replace H := unShade_hid H
                replace H := idx_hid H
                obtain ⟨nt_39, yt_39, et_39, lt_39, gt_39, H⟩ := H
                obtain rfl : nt_28 = nt_39 := by omega
                clear et_39
                obtain rfl := Option.some.inj (gt_28.out.symm.trans gt_39.out)
                clear gt_39 lt_39
                replace H := unShade_hid H
                replace H := let_hid H
                obtain ⟨t_42, ht_42, H⟩ := H
                obtain ⟨w_t_42, hw_t_42⟩ : ∃ x, Y10.drew.alloc (.cells #[.string t_24_name, .string t_28_name] 9) = x := ⟨_, rfl⟩
                have bw_t_42 : Below Y10.drew.heap.size Y10.drew w_t_42 := by rw [← hw_t_42]; exact (Below.refl _ _).alloc (Nat.le_refl _) _
                have hs_t_42 := HBY10.drew.out.size
                have nt_42 : t_42.length = 2 := by rw [← ht_42]; rfl
                have Ot_42 : Hid (w_t_42.ownsRow w.heap.size 9 1 (.slice (some ⟨Y10.heap.size, 0, none⟩) 2 2) 2 (t_42.map Value.string)) := by
                  rw [← hw_t_42, ← ht_42]
                  have e_ : ([.string t_24_name, .string t_28_name] : List Value) = (([t_24_name, t_28_name] : List ByteArray).map Value.string) := rfl
                  exact Lib.hid (own_laid (n := 2) hs_t_42 e_ rfl (by unfold maxLen; omega))
                clear hs_t_42
                have hht_42 := Lib.hid ht_42
                clear ht_42
                replace nt_42 := Lib.hid nt_42
                have Dt_42_out_4l1 := Lib.hid (Go.Proofs.Ytkinlkmmelkdnaa.GoN.nest_fresh Oout_4l1.out)
                have HBw_t_42 := Lib.hid (Below.step HBY10.drew.out bw_t_42)
                have ct_24_0__597 := cell_below bw_t_42 ct_24_0
                have ct_24_1__598 := cell_below bw_t_42 ct_24_1
                have ct_24_2__599 := cell_below bw_t_42 ct_24_2
                have ct_24_3__600 := cell_below bw_t_42 ct_24_3
                have ct_24_4__601 := cell_below bw_t_42 ct_24_4
                have ct_28_0__602 := cell_below bw_t_42 ct_28_0
                have ct_28_1__603 := cell_below bw_t_42 ct_28_1
                have ct_28_2__604 := cell_below bw_t_42 ct_28_2
                have ct_28_3__605 := cell_below bw_t_42 ct_28_3
                have ct_28_4__606 := cell_below bw_t_42 ct_28_4
                replace Oout_4l1 := Lib.hid (Go.Proofs.Ytkinlkmmelkdnaa.GoN.nest_below Oout_4l1.out bw_t_42)
                clear bw_t_42
                obtain ⟨w_t_43, hw_t_43⟩ : ∃ x, w_t_42.alloc (.cells #[.slice (some ⟨Y10.heap.size, 0, none⟩) 2 2] 68) = x := ⟨_, rfl⟩
                have bw_t_43 : Below w_t_42.heap.size w_t_42 w_t_43 := by rw [← hw_t_43]; exact (Below.refl _ _).alloc (Nat.le_refl _) _
                have HBw_t_43 := Lib.hid (Below.step HBw_t_42.out bw_t_43)
                have ct_24_0__607 := cell_below bw_t_43 ct_24_0__597
                have ct_24_1__608 := cell_below bw_t_43 ct_24_1__598
                have ct_24_2__609 := cell_below bw_t_43 ct_24_2__599
                have ct_24_3__610 := cell_below bw_t_43 ct_24_3__600
                have ct_24_4__611 := cell_below bw_t_43 ct_24_4__601
                have ct_28_0__612 := cell_below bw_t_43 ct_28_0__602
                have ct_28_1__613 := cell_below bw_t_43 ct_28_1__603
                have ct_28_2__614 := cell_below bw_t_43 ct_28_2__604
                have ct_28_3__615 := cell_below bw_t_43 ct_28_3__605
                have ct_28_4__616 := cell_below bw_t_43 ct_28_4__606
                replace Oout_4l1 := Lib.hid (Go.Proofs.Ytkinlkmmelkdnaa.GoN.nest_below Oout_4l1.out bw_t_43)
                replace Ot_42 := Lib.hid (own_below Ot_42.out bw_t_43)
                clear bw_t_43
                replace H := guard_hid H
                obtain ⟨hlt_44, H⟩ := H
                replace H := let_hid H
                obtain ⟨t_44, ht_44, H⟩ := H
                have hht_44 := Lib.hid ht_44
                clear ht_44
                go_region_held3 (fun w' => w'.cell? ⟨ab_t_24, ao_t_24 + k0 * 5, none⟩ = some (.string t_24_name) ∧ w'.cell? ⟨ab_t_24, ao_t_24 + k0 * 5 + 1, none⟩ = some (.int .i64 t_24_hue) ∧ w'.cell? ⟨ab_t_24, ao_t_24 + k0 * 5 + 2, none⟩ = some (.int .i64 t_24_width) ∧ w'.cell? ⟨ab_t_24, ao_t_24 + k0 * 5 + 3, none⟩ = some (.int .i64 t_24_dark) ∧ w'.cell? ⟨ab_t_24, ao_t_24 + k0 * 5 + 4, none⟩ = some (.int .i64 t_24_light) ∧ w'.cell? ⟨ab_t_24, ao_t_24 + nt_28 * 5, none⟩ = some (.string t_28_name) ∧ w'.cell? ⟨ab_t_24, ao_t_24 + nt_28 * 5 + 1, none⟩ = some (.int .i64 t_28_hue) ∧ w'.cell? ⟨ab_t_24, ao_t_24 + nt_28 * 5 + 2, none⟩ = some (.int .i64 t_28_width) ∧ w'.cell? ⟨ab_t_24, ao_t_24 + nt_28 * 5 + 3, none⟩ = some (.int .i64 t_28_dark) ∧ w'.cell? ⟨ab_t_24, ao_t_24 + nt_28 * 5 + 4, none⟩ = some (.int .i64 t_28_light)) (first | exact ⟨ct_24_0, ct_24_1, ct_24_2, ct_24_3, ct_24_4, ct_28_0, ct_28_1, ct_28_2, ct_28_3, ct_28_4⟩ | exact ⟨ct_24_0__597, ct_24_1__598, ct_24_2__599, ct_24_3__600, ct_24_4__601, ct_28_0__602, ct_28_1__603, ct_28_2__604, ct_28_3__605, ct_28_4__606⟩ | exact ⟨ct_24_0__607, ct_24_1__608, ct_24_2__609, ct_24_3__610, ct_24_4__611, ct_28_0__612, ct_28_1__613, ct_28_2__614, ct_28_3__615, ct_28_4__616⟩)
                    (first
                      | (have hst_44 := HBw_t_43.out.size
                         obtain ⟨zt_44, h1t_44, h2t_44, h3t_44, h4t_44, h5t_44⟩ := Oout_4l1.out
                         have h1t_44i := Lib.hid h1t_44
                         have h3t_44i := Lib.hid h3t_44
                         have h4t_44i := Lib.hid h4t_44
                         have h5t_44i := Lib.hid h5t_44
                         clear h1t_44 h3t_44 h4t_44 h5t_44
                         have h2t_44i := Lib.hid h2t_44
                         clear h2t_44
                         have hq_t_44 : Hid ((Value.slice (some ⟨Y10.heap.size, 0, none⟩) 2 2 : Value) = Value.slice (some ⟨Y10.heap.size, 0, none⟩) t_42.length 2) := Lib.hid (by rw [show t_42.length = 2 from nt_42.out])
                         have e1t_44 : out_4l1.length + 1 ≤ maxLen := by unfold maxLen; have h_ := hlt_44; (try simp only [List.length_nil, List.length_cons] at h_); omega
                         have e2t_44 : (out_4l1.length + 1) * 24 ≤ 140737488355328 := by have h_ := hlt_44; (try simp only [List.length_nil, List.length_cons] at h_); omega
                         have e3t_44 := news_new hw_t_43
                         refine Go.Proofs.Ytkinlkmmelkdnaa.GoH.step_append_own (w := w_t_43) rfl (.tmp 35) (.tmp 47) 80 rfl w.heap.size 68 i0_68 (.slice none 0 0) 1 24 Try.underlying80 hi_68 hz0_68 hz1_68 hz2_68 rfl (by decide) Aout_4l1 cout_4l1 out_4l1.length _ rfl h2t_44i.out ⟨w_t_42.heap.size, 0, none⟩ 1 [.slice (some ⟨Y10.heap.size, 0, none⟩) 2 2] rfl rfl e3t_44 (one_cells rfl) e1t_44 e2t_44 hst_44 ?_
                         intro vt_44 wt_44 ot_44 gt_44 yt_44
                         rw [hq_t_44.out] at ot_44
                         obtain ⟨qt_44, ct_44, Bt_44, rfl, pt_44, dt_44, rt_44⟩ := Go.Proofs.Ytkinlkmmelkdnaa.GoN.nest_app hht_44.out h1t_44i.out h4t_44i.out h3t_44i.out h5t_44i.out (own_len nt_42.out Ot_42.out) Dt_42_out_4l1.out gt_44 ot_44 yt_44
                         have Pt_44 := Lib.hid pt_44
                         have Ut_44 := Lib.hid dt_44
                         have Rt_44 := Lib.hid rt_44
                         have Gt_44 := Lib.hid gt_44
                         clear ot_44 gt_44 pt_44 yt_44 dt_44 rt_44
                         have HBwt_44 := Lib.hid (HBw_t_43.out.grown Gt_44.out hst_44 (fun q hq => (h2t_44i.out.lt q hq).1))
                         clear hst_44
                         replace ct_24_0__607 := cell_other ct_24_0__607 Gt_44.out (apart_old h2t_44i.out ltt_24)
                         replace ct_24_1__608 := cell_other ct_24_1__608 Gt_44.out (apart_old h2t_44i.out ltt_24)
                         replace ct_24_2__609 := cell_other ct_24_2__609 Gt_44.out (apart_old h2t_44i.out ltt_24)
                         replace ct_24_3__610 := cell_other ct_24_3__610 Gt_44.out (apart_old h2t_44i.out ltt_24)
                         replace ct_24_4__611 := cell_other ct_24_4__611 Gt_44.out (apart_old h2t_44i.out ltt_24)
                         replace ct_28_0__612 := cell_other ct_28_0__612 Gt_44.out (apart_old h2t_44i.out ltt_28)
                         replace ct_28_1__613 := cell_other ct_28_1__613 Gt_44.out (apart_old h2t_44i.out ltt_28)
                         replace ct_28_2__614 := cell_other ct_28_2__614 Gt_44.out (apart_old h2t_44i.out ltt_28)
                         replace ct_28_3__615 := cell_other ct_28_3__615 Gt_44.out (apart_old h2t_44i.out ltt_28)
                         replace ct_28_4__616 := cell_other ct_28_4__616 Gt_44.out (apart_old h2t_44i.out ltt_28)
                         replace Ot_42 := Lib.hid (own_other Ot_42.out Gt_44.out (Apart.symm (Dt_42_out_4l1.out _ (Go.Proofs.Ytkinlkmmelkdnaa.GoN.nest_head Oout_4l1.out))))
                         clear ct_24_0 ct_24_1 ct_24_2 ct_24_3 ct_24_4 ct_28_0 ct_28_1 ct_28_2 ct_28_3 ct_28_4 ct_24_0__597 ct_24_1__598 ct_24_2__599 ct_24_3__600 ct_24_4__601 ct_28_0__602 ct_28_1__603 ct_28_2__604 ct_28_3__605 ct_28_4__606
                         clear Oout_4l1 Gt_44 h1t_44i h2t_44i h3t_44i h4t_44i h5t_44i
                         clear Ot_42
                         have mmt_44 := Lib.hid Ut_44.out.2.1
                         clear Ut_44
                         clear Rt_44 mmt_44))
                replace H := let_hid H
                obtain ⟨t_47, ht_47, H⟩ := H
                replace H := app_hid H
                go_wp2_with fail
                go_roundg m1
                case measure => omega
                case rel => exact ⟨_, _, _, _, _, rfl, rfl, H, HBwt_44, Pt_44⟩
end Go.Proofs.Ytkinlkmmelkdnaa.GsOverlapPairs

