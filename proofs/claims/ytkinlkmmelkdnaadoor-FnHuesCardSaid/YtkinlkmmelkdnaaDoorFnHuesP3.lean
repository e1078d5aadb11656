/- The texts on which the proof of FnHues stands, one behind the other (3 of 4). No condition of their own. -/
import Derived.Test.YtkinlkmmelkdnaaDoorChecked
import Derived.Test.YtkinlkmmelkdnaaDoorFnHuesP1
import Derived.Test.YtkinlkmmelkdnaaDoorFnHuesP2
import Derived.WalkKit
import Derived.WalkSpells
import Derived.WalkLawsBesides
import Derived.BigQuiet
import Derived.OwnWalk
import Derived.Deep.LoopGhost
import Derived.Deep.QuietTactic
import Derived.IntWalk
import Derived.Lib.QuietBelow
import Derived.Deep.RegionHeld3
import Derived.Lib.ItoaMem
import Derived.Lib.Hide
import Derived.Lib.ItoaLen
import Derived.Outline
import Derived.WalkSmall
/- slices.ContainsFunc[[]loop.example/g01062/impl.Shade,loop.example/g01062/impl.Shade] as a plain function, and the contract of the program's: where the plain one has an answer, the program has it. Conditions: slices read as lists. -/
namespace Go.Proofs.YtkinlkmmelkdnaaDoor.GxSlicesContainsFuncLoopExampleG01062ImplShadeLoopExampleG01062ImplShadeiIsFree1
set_option linter.unusedVariables false
set_option linter.unusedSimpArgs false
open Go.RowKit
open Go.Proofs.YtkinlkmmelkdnaaDoor.Rowed Go.Proofs.YtkinlkmmelkdnaaDoor.Turn Go.Proofs.YtkinlkmmelkdnaaDoor.Aid Go.Proofs.YtkinlkmmelkdnaaDoor.GoP Go.Proofs.YtkinlkmmelkdnaaDoor.GoM

def P (s_0 : (List Go.Proofs.YtkinlkmmelkdnaaDoor.PShade.Shade)) (hf1_0 : Int) (hf1_1 : Int) : Option (Bool) :=
  Option.bind (Go.Proofs.YtkinlkmmelkdnaaDoor.GxSlicesIndexFuncLoopExampleG01062ImplShadeLoopExampleG01062ImplShadeiIsFree1.P s_0 hf1_0 hf1_1) fun (t_3 : Int) =>
  letK (decide (0 ≤ t_3)) fun (t_4 : Bool) =>
  some t_4

set_option maxRecDepth 100000 in
set_option maxHeartbeats 2000000 in
theorem C (s_0 : (List Go.Proofs.YtkinlkmmelkdnaaDoor.PShade.Shade)) (hf1_0 : Int) (hf1_1 : Int) (A0 : Option Addr) (c0 : Nat) (gf1_0 : Nat) (gf1_1 : Nat) (w : World) (M0 : Hid (Cells w 5 A0 s_0.length (Go.Proofs.YtkinlkmmelkdnaaDoor.PShade.flat s_0))) (N0 : Hid (s_0.length ≤ 9223372036854775807)) (Ff1_0h : Hid (w.cell? ⟨gf1_0, 0, none⟩ = some (.int .i64 hf1_0))) (Ff1_1h : Hid (w.cell? ⟨gf1_1, 0, none⟩ = some (.int .i64 hf1_1))) {r : Bool} (H : Hid (P s_0 hf1_0 hf1_1 = some r)) :
    Calls Tryd.prog 107 #[.slice A0 s_0.length c0, .func (.func 108) #[] #[.pointer (some ⟨gf1_0, 0, none⟩), .pointer (some ⟨gf1_1, 0, none⟩)]] w (Gives (.bool r) w) := by
  have HB := Lib.hid (Below.refl w.heap.size w)
  unfold P at H
  have N0o := N0.out
  have Ff1_0 := Ff1_0h.out
  have Ff1_1 := Ff1_1h.out
  go_enter Tryd.func107, Tryd.ntmps107
  replace H := bind_hid H
  obtain ⟨t_3, qt_3, H⟩ := H
  go_wp2_with fail
  go_at_call 77
  refine (Go.Proofs.YtkinlkmmelkdnaaDoor.GxSlicesIndexFuncLoopExampleG01062ImplShadeLoopExampleG01062ImplShadeiIsFree1.C (s_0) (hf1_0) (hf1_1) A0 c0 (gf1_0) (gf1_1) _   (Lib.hid (Cells.below M0.out HB.out)) N0 (Lib.hid Ff1_0) (Lib.hid Ff1_1) qt_3).mono ?_
  rintro e_t_3 wt_3 ⟨rfl, bt_3⟩
  have HBwt_3 := Lib.hid (Below.step HB.out bt_3)
  replace Ff1_0 := cell_below bt_3 Ff1_0
  replace Ff1_1 := cell_below bt_3 Ff1_1
  clear bt_3
  replace H := let_hid H
  obtain ⟨t_4, ht_4, H⟩ := H
  obtain rfl := ret_hid H
  go_wp2_with fail
  go_ret
  exact ⟨rfl, HBwt_3.out⟩
end Go.Proofs.YtkinlkmmelkdnaaDoor.GxSlicesContainsFuncLoopExampleG01062ImplShadeLoopExampleG01062ImplShadeiIsFree1

/- loop.example/g01062/impl.isFree as a plain function, and the contract of the program's: where the plain one has an answer, the program has it. Conditions: slices read as lists. -/
namespace Go.Proofs.YtkinlkmmelkdnaaDoor.GiIsFree
set_option linter.unusedVariables false
set_option linter.unusedSimpArgs false
open Go.RowKit
open Go.Proofs.YtkinlkmmelkdnaaDoor.Rowed Go.Proofs.YtkinlkmmelkdnaaDoor.Turn Go.Proofs.YtkinlkmmelkdnaaDoor.Aid Go.Proofs.YtkinlkmmelkdnaaDoor.GoP Go.Proofs.YtkinlkmmelkdnaaDoor.GoM

def P (list : (List Go.Proofs.YtkinlkmmelkdnaaDoor.PShade.Shade)) (hue : Int) (light : Int) : Option (Bool) :=
  Option.bind (Go.Proofs.YtkinlkmmelkdnaaDoor.GxSlicesContainsFuncLoopExampleG01062ImplShadeLoopExampleG01062ImplShadeiIsFree1.P list hue light) fun (t_5 : Bool) =>
  letK (!t_5) fun (t_6 : Bool) =>
  some t_6

set_option maxRecDepth 100000 in
set_option maxHeartbeats 2000000 in
theorem C (list : (List Go.Proofs.YtkinlkmmelkdnaaDoor.PShade.Shade)) (hue : Int) (light : Int) (A0 : Option Addr) (c0 : Nat)  (w : World) (M0 : Hid (Cells w 5 A0 list.length (Go.Proofs.YtkinlkmmelkdnaaDoor.PShade.flat list))) (N0 : Hid (list.length ≤ 9223372036854775807))  {r : Bool} (H : Hid (P list hue light = some r)) :
    Calls Tryd.prog 84 #[.slice A0 list.length c0, .int .i64 hue, .int .i64 light] w (Gives (.bool r) w) := by
  have HB := Lib.hid (Below.refl w.heap.size w)
  unfold P at H
  have N0o := N0.out
  go_enter Tryd.func84, Tryd.ntmps84
  obtain ⟨w_hue_0, hw_hue_0⟩ : ∃ x, w.alloc (.cells #[.int .i64 hue] 3) = x := ⟨_, rfl⟩
  have bw_hue_0 : Below w.heap.size w w_hue_0 := by rw [← hw_hue_0]; exact (Below.refl _ _).alloc (Nat.le_refl _) _
  have HBw_hue_0 := Lib.hid (Below.step HB.out bw_hue_0)
  clear bw_hue_0
  have khue_0_0 : w_hue_0.cell? ⟨w.heap.size, 0, none⟩ = some (.int .i64 hue) := by rw [← hw_hue_0]; exact box_new _ _ _ 0 _ rfl
  obtain ⟨w_light_1, hw_light_1⟩ : ∃ x, w_hue_0.alloc (.cells #[.int .i64 light] 3) = x := ⟨_, rfl⟩
  have bw_light_1 : Below w_hue_0.heap.size w_hue_0 w_light_1 := by rw [← hw_light_1]; exact (Below.refl _ _).alloc (Nat.le_refl _) _
  have HBw_light_1 := Lib.hid (Below.step HBw_hue_0.out bw_light_1)
  have khue_0_0__227 := cell_below bw_light_1 khue_0_0
  clear bw_light_1
  have klight_1_0 : w_light_1.cell? ⟨w_hue_0.heap.size, 0, none⟩ = some (.int .i64 light) := by rw [← hw_light_1]; exact box_new _ _ _ 0 _ rfl
  replace H := bind_hid H
  obtain ⟨t_5, qt_5, H⟩ := H
  go_wp2_with fail
  clear khue_0_0
  go_at_call 107
  refine (Go.Proofs.YtkinlkmmelkdnaaDoor.GxSlicesContainsFuncLoopExampleG01062ImplShadeLoopExampleG01062ImplShadeiIsFree1.C (list) (hue) (light) A0 c0 (w.heap.size) (w_hue_0.heap.size) _   (Lib.hid (Cells.below M0.out HBw_light_1.out)) N0 (Lib.hid khue_0_0__227) (Lib.hid klight_1_0) qt_5).mono ?_
  rintro e_t_5 wt_5 ⟨rfl, bt_5⟩
  have HBwt_5 := Lib.hid (Below.step HBw_light_1.out bt_5)
  replace khue_0_0__227 := cell_below bt_5 khue_0_0__227
  replace klight_1_0 := cell_below bt_5 klight_1_0
  clear bt_5
  cases t_5 with
  | false =>
    replace H := let_hid H
    obtain ⟨t_6, ht_6, H⟩ := H
    obtain rfl : t_6 = true := ht_6.symm
    obtain rfl := ret_hid H
    go_wp2_with fail
    go_ret
    exact ⟨rfl, HBwt_5.out⟩
  | true =>
    replace H := let_hid H
    obtain ⟨t_6, ht_6, H⟩ := H
    obtain rfl : t_6 = false := ht_6.symm
    obtain rfl := ret_hid H
    go_wp2_with fail
    go_ret
    exact ⟨rfl, HBwt_5.out⟩
end Go.Proofs.YtkinlkmmelkdnaaDoor.GiIsFree

/- loop.example/g01062/impl.CertainHues$2 as a plain function, and the contract of the program's: where the plain one has an answer, the program has it. Conditions: slices read as lists. -/
namespace Go.Proofs.YtkinlkmmelkdnaaDoor.GiCertainHues2
set_option linter.unusedVariables false
set_option linter.unusedSimpArgs false
open Go.RowKit
open Go.Proofs.YtkinlkmmelkdnaaDoor.Rowed Go.Proofs.YtkinlkmmelkdnaaDoor.Turn Go.Proofs.YtkinlkmmelkdnaaDoor.Aid Go.Proofs.YtkinlkmmelkdnaaDoor.GoP Go.Proofs.YtkinlkmmelkdnaaDoor.GoM

def P (hue : Int) (hq0 : (List Go.Proofs.YtkinlkmmelkdnaaDoor.PShade.Shade)) (hq1 : Int) (hq2 : Int) (hq3 : (List Go.Proofs.YtkinlkmmelkdnaaDoor.PShade.Shade)) : Option (Bool) :=
  Option.bind (idx hq0 hq1) fun (yt_3 : Go.Proofs.YtkinlkmmelkdnaaDoor.PShade.Shade) =>
  unShade yt_3 fun (t_3_name : ByteArray) (t_3_hue : Int) (t_3_width : Int) (t_3_dark : Int) (t_3_light : Int) =>
  Option.bind (Go.Proofs.YtkinlkmmelkdnaaDoor.GiTakesIn.P (Go.Proofs.YtkinlkmmelkdnaaDoor.PShade.Shade.mk t_3_name t_3_hue t_3_width t_3_dark t_3_light) hue hq2) fun (t_7 : Bool) =>
  joinK (fun (t_13 : Bool) =>
  some t_13) fun jt_13 => iteK t_7 (Option.bind (Go.Proofs.YtkinlkmmelkdnaaDoor.GiIsFree.P hq3 hue hq2) fun (t_12 : Bool) =>
  appK jt_13 t_12) (appK jt_13 false)

set_option maxRecDepth 100000 in
set_option maxHeartbeats 2000000 in
theorem C (hue : Int) (hq0 : (List Go.Proofs.YtkinlkmmelkdnaaDoor.PShade.Shade)) (hq1 : Int) (hq2 : Int) (hq3 : (List Go.Proofs.YtkinlkmmelkdnaaDoor.PShade.Shade)) (Ahq0 : Option Addr) (chq0 : Nat) (Ahq3 : Option Addr) (chq3 : Nat) (gq0 : Nat) (gq1 : Nat) (gq2 : Nat) (gq3 : Nat) (w : World) (Mhq0 : Hid (Cells w 5 Ahq0 hq0.length (Go.Proofs.YtkinlkmmelkdnaaDoor.PShade.flat hq0))) (Nhq0 : Hid (hq0.length ≤ 9223372036854775807)) (Mhq3 : Hid (Cells w 5 Ahq3 hq3.length (Go.Proofs.YtkinlkmmelkdnaaDoor.PShade.flat hq3))) (Nhq3 : Hid (hq3.length ≤ 9223372036854775807)) (Fq0h : Hid (w.cell? ⟨gq0, 0, none⟩ = some (.slice Ahq0 hq0.length chq0))) (Fq1h : Hid (w.cell? ⟨gq1, 0, none⟩ = some (.int .i64 hq1))) (Fq2h : Hid (w.cell? ⟨gq2, 0, none⟩ = some (.int .i64 hq2))) (Fq3h : Hid (w.cell? ⟨gq3, 0, none⟩ = some (.slice Ahq3 hq3.length chq3))) {r : Bool} (H : Hid (P hue hq0 hq1 hq2 hq3 = some r)) :
    Calls Tryd.prog 82 #[.int .i64 hue, .pointer (some ⟨gq0, 0, none⟩), .pointer (some ⟨gq1, 0, none⟩), .pointer (some ⟨gq2, 0, none⟩), .pointer (some ⟨gq3, 0, none⟩)] w (Gives (.bool r) w) := by
  have HB := Lib.hid (Below.refl w.heap.size w)
  unfold P at H
  have Nhq0o := Nhq0.out
  have Nhq3o := Nhq3.out
  have Fq0 := Fq0h.out
  have Fq1 := Fq1h.out
  have Fq2 := Fq2h.out
  have Fq3 := Fq3h.out
  go_enter Tryd.func82, Tryd.ntmps82
  go_wp2_with fail
  have HFq0 := Lib.hid Fq0
  replace Fq0 := cell_regrown Fq0
  have HFq1 := Lib.hid Fq1
  replace Fq1 := cell_regrown Fq1
  have HFq2 := Lib.hid Fq2
  replace Fq2 := cell_regrown Fq2
  have HFq3 := Lib.hid Fq3
  replace Fq3 := cell_regrown Fq3
  replace H := idx_hid H
  obtain ⟨nt_3, yt_3, et_3, lt_3, gt_3, H⟩ := H
  subst et_3
  obtain ⟨t_3_name, t_3_hue, t_3_width, t_3_dark, t_3_light⟩ := yt_3
  replace H := unShade_hid H
  obtain ⟨ab_t_3, ao_t_3, zt_3, At_3, z_t_3, ct_3_0, ct_3_1, ct_3_2, ct_3_3, ct_3_4⟩ := Go.Proofs.YtkinlkmmelkdnaaDoor.OShade.at_ Mhq0.out lt_3
  obtain rfl := Option.some.inj (gt_3.out.symm.trans z_t_3)
  subst At_3
  have ltt_3 := cell_lt ct_3_0
  replace ct_3_0 := cell_below HB.out ct_3_0
  replace ct_3_1 := cell_below HB.out ct_3_1
  replace ct_3_2 := cell_below HB.out ct_3_2
  replace ct_3_3 := cell_below HB.out ct_3_3
  replace ct_3_4 := cell_below HB.out ct_3_4
  clear z_t_3
  have b0t_3 : (0 : Int) ≤ (nt_3 : Int) := by omega
  have b1t_3 : (nt_3 : Int) < ((hq0.length : Nat) : Int) := by omega
  have b2t_3 : ((nt_3 : Int)).toNat = nt_3 := by omega
  have Hct_3_0 := Lib.hid ct_3_0
  replace ct_3_0 := cell_regrown ct_3_0
  have Hct_3_1 := Lib.hid ct_3_1
  replace ct_3_1 := cell_regrown ct_3_1
  have Hct_3_2 := Lib.hid ct_3_2
  replace ct_3_2 := cell_regrown ct_3_2
  have Hct_3_3 := Lib.hid ct_3_3
  replace ct_3_3 := cell_regrown ct_3_3
  have Hct_3_4 := Lib.hid ct_3_4
  replace ct_3_4 := cell_regrown ct_3_4
  replace H := bind_hid H
  obtain ⟨t_7, qt_7, H⟩ := H
  have nt_7 : ∀ d os, Calls Tryd.prog 83 #[.agg #[.string t_3_name, .int .i64 t_3_hue, .int .i64 t_3_width, .int .i64 t_3_dark, .int .i64 t_3_light], .int .i64 hue, .int .i64 hq2] (Go.Sort.grow (redrawn w d) os) fun e w'' => e = .returned (.bool t_7) ∧ ∃ p : Regrown, w'' = Go.Sort.grow (redrawn w p.d) p.os := fun d os => Calls.regrown_of (Go.Proofs.YtkinlkmmelkdnaaDoor.GiTakesIn.C ((Go.Proofs.YtkinlkmmelkdnaaDoor.PShade.Shade.mk t_3_name t_3_hue t_3_width t_3_dark t_3_light)) (hue) (hq2)  _    qt_7)
  replace H := join_hid H
  cases t_7 with
  | false =>
    replace H := ite_f H
    replace H := app_hid H
    refine wp_region_quiet_below (by kernel_rfl) (by kernel_rfl) ?_
    repeat (go_big_quiet_step (first | (go_at_call 83; exact nt_7 _ _)))
    refine wpQuiet_nil ?_
    intro Y1 hY1
    replace hY1 := below_class hY1
    clear nt_7
    replace Fq0 := HFq0.out
    clear HFq0
    replace Fq1 := HFq1.out
    clear HFq1
    replace Fq2 := HFq2.out
    clear HFq2
    replace Fq3 := HFq3.out
    clear HFq3
    replace ct_3_0 := Hct_3_0.out
    clear Hct_3_0
    replace ct_3_1 := Hct_3_1.out
    clear Hct_3_1
    replace ct_3_2 := Hct_3_2.out
    clear Hct_3_2
    replace ct_3_3 := Hct_3_3.out
    clear Hct_3_3
    replace ct_3_4 := Hct_3_4.out
    clear Hct_3_4
    have HBY1 := Lib.hid (Below.step HB.out hY1)
    replace Fq0 := cell_below hY1 Fq0
    replace Fq1 := cell_below hY1 Fq1
    replace Fq2 := cell_below hY1 Fq2
    replace Fq3 := cell_below hY1 Fq3
    replace ct_3_0 := cell_below hY1 ct_3_0
    replace ct_3_1 := cell_below hY1 ct_3_1
    replace ct_3_2 := cell_below hY1 ct_3_2
    replace ct_3_3 := cell_below hY1 ct_3_3
    replace ct_3_4 := cell_below hY1 ct_3_4
    clear hY1
    obtain rfl := ret_hid H
    go_wp2_with fail
    go_ret
    exact ⟨rfl, HBY1.out⟩
  | true =>
    replace H := ite_t H
    replace H := bind_hid H
    obtain ⟨t_12, qt_12, H⟩ := H
    have nt_12 : ∀ d os, Calls Tryd.prog 84 #[.slice Ahq3 hq3.length chq3, .int .i64 hue, .int .i64 hq2] (Go.Sort.grow (redrawn w d) os) fun e w'' => e = .returned (.bool t_12) ∧ ∃ p : Regrown, w'' = Go.Sort.grow (redrawn w p.d) p.os := fun d os => Calls.regrown_of (Go.Proofs.YtkinlkmmelkdnaaDoor.GiIsFree.C (hq3) (hue) (hq2) Ahq3 chq3 _   (Lib.hid (Cells.below (Cells.below Mhq3.out HB.out) (below_regrown _ _ _))) Nhq3 qt_12)
    replace H := app_hid H
    refine wp_region_quiet_below (by kernel_rfl) (by kernel_rfl) ?_
    repeat (go_big_quiet_step (first | (go_at_call 83; exact nt_7 _ _) | (go_at_call 84; exact nt_12 _ _)))
    refine wpQuiet_nil ?_
    intro Y1 hY1
    replace hY1 := below_class hY1
    clear nt_7 nt_12
    replace Fq0 := HFq0.out
    clear HFq0
    replace Fq1 := HFq1.out
    clear HFq1
    replace Fq2 := HFq2.out
    clear HFq2
    replace Fq3 := HFq3.out
    clear HFq3
    replace ct_3_0 := Hct_3_0.out
    clear Hct_3_0
    replace ct_3_1 := Hct_3_1.out
    clear Hct_3_1
    replace ct_3_2 := Hct_3_2.out
    clear Hct_3_2
    replace ct_3_3 := Hct_3_3.out
    clear Hct_3_3
    replace ct_3_4 := Hct_3_4.out
    clear Hct_3_4
    have HBY1 := Lib.hid (Below.step HB.out hY1)
    replace Fq0 := cell_below hY1 Fq0
    replace Fq1 := cell_below hY1 Fq1
    replace Fq2 := cell_below hY1 Fq2
    replace Fq3 := cell_below hY1 Fq3
    replace ct_3_0 := cell_below hY1 ct_3_0
    replace ct_3_1 := cell_below hY1 ct_3_1
    replace ct_3_2 := cell_below hY1 ct_3_2
    replace ct_3_3 := cell_below hY1 ct_3_3
    replace ct_3_4 := cell_below hY1 ct_3_4
    clear hY1
    obtain rfl := ret_hid H
    go_wp2_with fail
    go_ret
    exact ⟨rfl, HBY1.out⟩
end Go.Proofs.YtkinlkmmelkdnaaDoor.GiCertainHues2

/- loop.example/g01062/impl.countHues as a plain function, and the contract of the program's: where the plain one has an answer, the program has it. Conditions: slices read as lists. -/
namespace Go.Proofs.YtkinlkmmelkdnaaDoor.GiCountHuesiCertainHues2
set_option linter.unusedVariables false
set_option linter.unusedSimpArgs false
open Go.RowKit
open Go.Proofs.YtkinlkmmelkdnaaDoor.Rowed Go.Proofs.YtkinlkmmelkdnaaDoor.Turn Go.Proofs.YtkinlkmmelkdnaaDoor.Aid Go.Proofs.YtkinlkmmelkdnaaDoor.GoP Go.Proofs.YtkinlkmmelkdnaaDoor.GoM

def l0 (hf0_0 : (List Go.Proofs.YtkinlkmmelkdnaaDoor.PShade.Shade)) (hf0_1 : Int) (hf0_2 : Int) (hf0_3 : (List Go.Proofs.YtkinlkmmelkdnaaDoor.PShade.Shade)) (k0 : Nat) (s : Int) (nx0 bk0 : Int → Option (Int)) : Option (Int) :=
  letK s fun count_3l0 =>
  Option.bind (Go.Proofs.YtkinlkmmelkdnaaDoor.GiCertainHues2.P (k0 : Int) hf0_0 hf0_1 hf0_2 hf0_3) fun (t_8 : Bool) =>
  iteK t_8
  (letK (IntKind.i64.wrap (count_3l0 + 1)) fun (t_10 : Int) =>
  appK nx0 (t_10))
  (appK nx0 (count_3l0))

def e0  (s : Int) : Option (Int) :=
  letK s fun count_3l0 =>
  some count_3l0

def P (hf0_0 : (List Go.Proofs.YtkinlkmmelkdnaaDoor.PShade.Shade)) (hf0_1 : Int) (hf0_2 : Int) (hf0_3 : (List Go.Proofs.YtkinlkmmelkdnaaDoor.PShade.Shade)) : Option (Int) :=
  cntK (l0 hf0_0 hf0_1 hf0_2 hf0_3) (360) 0 (0) (e0 )

set_option maxRecDepth 100000 in
set_option maxHeartbeats 2000000 in
theorem C (hf0_0 : (List Go.Proofs.YtkinlkmmelkdnaaDoor.PShade.Shade)) (hf0_1 : Int) (hf0_2 : Int) (hf0_3 : (List Go.Proofs.YtkinlkmmelkdnaaDoor.PShade.Shade)) (Ahf0_0 : Option Addr) (chf0_0 : Nat) (Ahf0_3 : Option Addr) (chf0_3 : Nat) (gf0_0 : Nat) (gf0_1 : Nat) (gf0_2 : Nat) (gf0_3 : Nat) (w : World) (Mhf0_0 : Hid (Cells w 5 Ahf0_0 hf0_0.length (Go.Proofs.YtkinlkmmelkdnaaDoor.PShade.flat hf0_0))) (Nhf0_0 : Hid (hf0_0.length ≤ 9223372036854775807)) (Mhf0_3 : Hid (Cells w 5 Ahf0_3 hf0_3.length (Go.Proofs.YtkinlkmmelkdnaaDoor.PShade.flat hf0_3))) (Nhf0_3 : Hid (hf0_3.length ≤ 9223372036854775807)) (Ff0_0h : Hid (w.cell? ⟨gf0_0, 0, none⟩ = some (.slice Ahf0_0 hf0_0.length chf0_0))) (Ff0_1h : Hid (w.cell? ⟨gf0_1, 0, none⟩ = some (.int .i64 hf0_1))) (Ff0_2h : Hid (w.cell? ⟨gf0_2, 0, none⟩ = some (.int .i64 hf0_2))) (Ff0_3h : Hid (w.cell? ⟨gf0_3, 0, none⟩ = some (.slice Ahf0_3 hf0_3.length chf0_3))) {r : Int} (H : Hid (P hf0_0 hf0_1 hf0_2 hf0_3 = some r)) :
    Calls Tryd.prog 81 #[.func (.func 82) #[] #[.pointer (some ⟨gf0_0, 0, none⟩), .pointer (some ⟨gf0_1, 0, none⟩), .pointer (some ⟨gf0_2, 0, none⟩), .pointer (some ⟨gf0_3, 0, none⟩)]] w (Gives (.int .i64 r) w) := by
  have HB := Lib.hid (Below.refl w.heap.size w)
  unfold P at H
  have Nhf0_0o := Nhf0_0.out
  have Nhf0_3o := Nhf0_3.out
  have Ff0_0 := Ff0_0h.out
  have Ff0_1 := Ff0_1h.out
  have Ff0_2 := Ff0_2h.out
  have Ff0_3 := Ff0_3h.out
  go_enter Tryd.func81, Tryd.ntmps81
  go_wp2_with fail
  go_loopg [5, 3] (360) (fun m_ v5_ v3_ wr => ∃ (k0 : Nat) (count_3l0 : Int), k0 + m_ = 360 ∧ v5_ = .int .i64 (k0 : Int) ∧ v3_ = .int .i64 count_3l0 ∧ Hid (cntK (l0 hf0_0 hf0_1 hf0_2 hf0_3) m_ k0 (count_3l0) (e0 ) = some r) ∧ Hid (Below w.heap.size w wr) ∧ wr.cell? ⟨gf0_0, 0, none⟩ = some (.slice Ahf0_0 hf0_0.length chf0_0) ∧ wr.cell? ⟨gf0_1, 0, none⟩ = some (.int .i64 hf0_1) ∧ wr.cell? ⟨gf0_2, 0, none⟩ = some (.int .i64 hf0_2) ∧ wr.cell? ⟨gf0_3, 0, none⟩ = some (.slice Ahf0_3 hf0_3.length chf0_3))
  case atStart => exact ⟨0, _, by omega, rfl, rfl, H, HB, Ff0_0, Ff0_1, Ff0_2, Ff0_3⟩
  case round =>
    obtain ⟨k0, count_3l0, hkm0, rfl, rfl, H, HBwr0, Ff0_0, Ff0_1, Ff0_2, Ff0_3⟩ := hrel
    rename World => wr0
    cases gk with
    | zero =>
      obtain rfl : k0 = 360 := by omega
      have hc0 : decide (((360 : Nat) : Int) < ((360 : Nat) : Int)) = false := by simp
      replace H := cnt_zero H
      unfold e0 at H
      replace H := let_hid H
      obtain ⟨_, rfl, H⟩ := H
      obtain rfl := ret_hid H
      go_wp2_with fail
      go_ret
      exact ⟨rfl, HBwr0.out⟩
    | succ m0 =>
      have hlt0 : k0 < 360 := by omega
      have hc0 : decide ((k0 : Int) < ((360 : Nat) : Int)) = true := by simp; omega
      replace H := cnt_succ H
      unfold l0 at H
      replace H := let_hid H
      obtain ⟨_, rfl, H⟩ := H
      replace H := bind_hid H
      obtain ⟨t_8, qt_8, H⟩ := H
      go_wp2_with fail
      go_at_call 82
      refine (Go.Proofs.YtkinlkmmelkdnaaDoor.GiCertainHues2.C ((k0 : Int)) (hf0_0) (hf0_1) (hf0_2) (hf0_3) Ahf0_0 chf0_0 Ahf0_3 chf0_3 (gf0_0) (gf0_1) (gf0_2) (gf0_3) _   (Lib.hid (Cells.below Mhf0_0.out HBwr0.out)) Nhf0_0 (Lib.hid (Cells.below Mhf0_3.out HBwr0.out)) Nhf0_3 (Lib.hid Ff0_0) (Lib.hid Ff0_1) (Lib.hid Ff0_2) (Lib.hid Ff0_3) qt_8).mono ?_
      rintro e_t_8 wt_8 ⟨rfl, bt_8⟩
      have HBwt_8 := Lib.hid (Below.step HBwr0.out bt_8)
      replace Ff0_0 := cell_below bt_8 Ff0_0
      replace Ff0_1 := cell_below bt_8 Ff0_1
      replace Ff0_2 := cell_below bt_8 Ff0_2
      replace Ff0_3 := cell_below bt_8 Ff0_3
      clear bt_8
      cases t_8 with
      | false =>
        replace H := ite_f H
        replace H := app_hid H
        go_wp2_with fail
        go_roundg m0
        case measure => omega
        case rel => exact ⟨k0 + 1, _, by omega, by go_num, rfl, H, HBwt_8, Ff0_0, Ff0_1, Ff0_2, Ff0_3⟩
      | true =>
        replace H := ite_t H
        replace H := let_hid H
        obtain ⟨t_10, ht_10, H⟩ := H
        replace H := app_hid H
        go_wp2_with fail
        go_roundg m0
        case measure => omega
        case rel => exact ⟨k0 + 1, _, by omega, by go_num, rfl, H, HBwt_8, Ff0_0, Ff0_1, Ff0_2, Ff0_3⟩
end Go.Proofs.YtkinlkmmelkdnaaDoor.GiCountHuesiCertainHues2

/- loop.example/g01062/impl.CertainHues as a plain function, and the contract of the program's: where the plain one has an answer, the program has it. Conditions: slices read as lists. -/
namespace Go.Proofs.YtkinlkmmelkdnaaDoor.GiCertainHues
set_option linter.unusedVariables false
set_option linter.unusedSimpArgs false
open Go.RowKit
open Go.Proofs.YtkinlkmmelkdnaaDoor.Rowed Go.Proofs.YtkinlkmmelkdnaaDoor.Turn Go.Proofs.YtkinlkmmelkdnaaDoor.Aid Go.Proofs.YtkinlkmmelkdnaaDoor.GoP Go.Proofs.YtkinlkmmelkdnaaDoor.GoM

def P (list : (List Go.Proofs.YtkinlkmmelkdnaaDoor.PShade.Shade)) (name : ByteArray) (light : Int) : Option (Int × Bool) :=
  Option.bind (Go.Proofs.YtkinlkmmelkdnaaDoor.GiAreShades.P list) fun (t_6 : Bool) =>
  letK (!t_6) fun (t_7 : Bool) =>
  joinK (fun (t_12 : Bool) =>
  iteK t_12
  (some (0, false))
  (Option.bind (Go.Proofs.YtkinlkmmelkdnaaDoor.GxSlicesIndexFuncLoopExampleG01062ImplShadeLoopExampleG01062ImplShadeiCertainHues1.P list name) fun (t_17 : Int) =>
  letK (decide (t_17 < 0)) fun (t_21 : Bool) =>
  iteK t_21
  (some (0, false))
  (Option.bind (Go.Proofs.YtkinlkmmelkdnaaDoor.GxSlicesCloneLoopExampleG01062ImplShadeLoopExampleG01062ImplShade.P list) fun (t_25 : (List Go.Proofs.YtkinlkmmelkdnaaDoor.PShade.Shade)) =>
  letK (IntKind.i64.wrap (t_17 + 1)) fun (t_28 : Int) =>
  Option.bind (Go.Proofs.YtkinlkmmelkdnaaDoor.GxSlicesDeleteLoopExampleG01062ImplShadeLoopExampleG01062ImplShade.P t_25 t_17 t_28) fun (t_29 : (List Go.Proofs.YtkinlkmmelkdnaaDoor.PShade.Shade)) =>
  Option.bind (Go.Proofs.YtkinlkmmelkdnaaDoor.GiCountHuesiCertainHues2.P list t_17 light t_29) fun (t_33 : Int) =>
  some (t_33, true)))) fun jt_12 => iteK t_7 (appK jt_12 true) (Option.bind (Go.Proofs.YtkinlkmmelkdnaaDoor.GiIsLightness.P light) fun (t_10 : Bool) =>
  letK (!t_10) fun (t_11 : Bool) =>
  appK jt_12 t_11)

set_option maxRecDepth 100000 in
set_option maxHeartbeats 2000000 in
theorem C (list : (List Go.Proofs.YtkinlkmmelkdnaaDoor.PShade.Shade)) (name : ByteArray) (light : Int) (A0 : Option Addr) (c0 : Nat)  (w : World) (M0 : Hid (Cells w 5 A0 list.length (Go.Proofs.YtkinlkmmelkdnaaDoor.PShade.flat list))) (N0 : Hid (list.length ≤ 9223372036854775807)) (Q0 : Hid (Room A0 list.length c0))  {r0 : Int} {r1 : Bool} (H : Hid (P list name light = some (r0, r1))) :
    Calls Tryd.prog 32 #[.slice A0 list.length c0, .string name, .int .i64 light] w (Gives (.tuple #[.int .i64 r0, .bool r1]) w) := by
  have HB := Lib.hid (Below.refl w.heap.size w)
  unfold P at H
  have N0o := N0.out
  go_enter Tryd.func32, Tryd.ntmps32
  obtain ⟨w_list_0, hw_list_0⟩ : ∃ x, w.alloc (.cells #[.slice A0 list.length c0] 49) = x := ⟨_, rfl⟩
  have bw_list_0 : Below w.heap.size w w_list_0 := by rw [← hw_list_0]; exact (Below.refl _ _).alloc (Nat.le_refl _) _
  have HBw_list_0 := Lib.hid (Below.step HB.out bw_list_0)
  clear bw_list_0
  have klist_0_0 : w_list_0.cell? ⟨w.heap.size, 0, none⟩ = some (.slice A0 list.length c0) := by rw [← hw_list_0]; exact box_new _ _ _ 0 _ rfl
  obtain ⟨w_name_1, hw_name_1⟩ : ∃ x, w_list_0.alloc (.cells #[.string name] 9) = x := ⟨_, rfl⟩
  have bw_name_1 : Below w_list_0.heap.size w_list_0 w_name_1 := by rw [← hw_name_1]; exact (Below.refl _ _).alloc (Nat.le_refl _) _
  have HBw_name_1 := Lib.hid (Below.step HBw_list_0.out bw_name_1)
  have klist_0_0__228 := cell_below bw_name_1 klist_0_0
  clear bw_name_1
  have kname_1_0 : w_name_1.cell? ⟨w_list_0.heap.size, 0, none⟩ = some (.string name) := by rw [← hw_name_1]; exact box_new _ _ _ 0 _ rfl
  obtain ⟨w_light_2, hw_light_2⟩ : ∃ x, w_name_1.alloc (.cells #[.int .i64 light] 3) = x := ⟨_, rfl⟩
  have bw_light_2 : Below w_name_1.heap.size w_name_1 w_light_2 := by rw [← hw_light_2]; exact (Below.refl _ _).alloc (Nat.le_refl _) _
  have HBw_light_2 := Lib.hid (Below.step HBw_name_1.out bw_light_2)
  have klist_0_0__229 := cell_below bw_light_2 klist_0_0__228
  have kname_1_0__230 := cell_below bw_light_2 kname_1_0
  clear bw_light_2
  have klight_2_0 : w_light_2.cell? ⟨w_name_1.heap.size, 0, none⟩ = some (.int .i64 light) := by rw [← hw_light_2]; exact box_new _ _ _ 0 _ rfl
  replace H := bind_hid H
  obtain ⟨t_6, qt_6, H⟩ := H
  go_wp2_with fail
  clear klist_0_0 klist_0_0__228 kname_1_0
  go_at_call 75
  refine (Go.Proofs.YtkinlkmmelkdnaaDoor.GiAreShades.C (list) A0 c0 _   (Lib.hid (Cells.below M0.out HBw_light_2.out)) N0 qt_6).mono ?_
  rintro e_t_6 wt_6 ⟨rfl, bt_6⟩
  have HBwt_6 := Lib.hid (Below.step HBw_light_2.out bt_6)
  replace klist_0_0__229 := cell_below bt_6 klist_0_0__229
  replace kname_1_0__230 := cell_below bt_6 kname_1_0__230
  replace klight_2_0 := cell_below bt_6 klight_2_0
  clear bt_6
  cases t_6 with
  | false =>
    replace H := let_hid H
    obtain ⟨t_7, ht_7, H⟩ := H
    obtain rfl : t_7 = true := ht_7.symm
    replace H := join_hid H
    replace H := ite_t H
    replace H := app_hid H
    replace H := ite_t H
    cases ret_hid H
    go_wp2_with fail
    go_ret2
    exact ⟨rfl, HBwt_6.out⟩
  | true =>
    replace H := let_hid H
    obtain ⟨t_7, ht_7, H⟩ := H
    obtain rfl : t_7 = false := ht_7.symm
    replace H := join_hid H
    replace H := ite_f H
    replace H := bind_hid H
    obtain ⟨t_10, qt_10, H⟩ := H
    go_wp2_with fail
    go_at_call 76
    refine (Go.Proofs.YtkinlkmmelkdnaaDoor.GiIsLightness.C (light)  _    qt_10).mono ?_
    rintro e_t_10 wt_10 ⟨rfl, bt_10⟩
    have HBwt_10 := Lib.hid (Below.step HBwt_6.out bt_10)
    replace klist_0_0__229 := cell_below bt_10 klist_0_0__229
    replace kname_1_0__230 := cell_below bt_10 kname_1_0__230
    replace klight_2_0 := cell_below bt_10 klight_2_0
    clear bt_10
    cases t_10 with
    | false =>
      replace H := let_hid H
      obtain ⟨t_11, ht_11, H⟩ := H
      obtain rfl : t_11 = true := ht_11.symm
      replace H := app_hid H
      replace H := ite_t H
      cases ret_hid H
      go_wp2_with fail
      go_ret2
      exact ⟨rfl, HBwt_10.out⟩
    | true =>
      replace H := let_hid H
      obtain ⟨t_11, ht_11, H⟩ := H
      obtain rfl : t_11 = false := ht_11.symm
      replace H := app_hid H
      replace H := ite_f H
      replace H := bind_hid H
      obtain ⟨t_17, qt_17, H⟩ := H
      go_wp2_with fail
      go_at_call 77
      refine (Go.Proofs.YtkinlkmmelkdnaaDoor.GxSlicesIndexFuncLoopExampleG01062ImplShadeLoopExampleG01062ImplShadeiCertainHues1.C (list) (name) A0 c0 (w_list_0.heap.size) _   (Lib.hid (Cells.below M0.out HBwt_10.out)) N0 (Lib.hid kname_1_0__230) qt_17).mono ?_
      rintro e_t_17 wt_17 ⟨rfl, bt_17⟩
      have HBwt_17 := Lib.hid (Below.step HBwt_10.out bt_17)
      replace klist_0_0__229 := cell_below bt_17 klist_0_0__229
      replace kname_1_0__230 := cell_below bt_17 kname_1_0__230
      replace klight_2_0 := cell_below bt_17 klight_2_0
      clear bt_17
      obtain ⟨w_index_18, hw_index_18⟩ : ∃ x, wt_17.alloc (.cells #[.int .i64 t_17] 3) = x := ⟨_, rfl⟩
      have bw_index_18 : Below wt_17.heap.size wt_17 w_index_18 := by rw [← hw_index_18]; exact (Below.refl _ _).alloc (Nat.le_refl _) _
      have HBw_index_18 := Lib.hid (Below.step HBwt_17.out bw_index_18)
      have klist_0_0__231 := cell_below bw_index_18 klist_0_0__229
      have kname_1_0__232 := cell_below bw_index_18 kname_1_0__230
      have klight_2_0__233 := cell_below bw_index_18 klight_2_0
      clear bw_index_18
      have kindex_18_0 : w_index_18.cell? ⟨wt_17.heap.size, 0, none⟩ = some (.int .i64 t_17) := by rw [← hw_index_18]; exact box_new _ _ _ 0 _ rfl
      replace H := let_hid H
      obtain ⟨t_21, ht_21, H⟩ := H
      cases t_21 with
      | false =>
        replace H := ite_f H
        go_wp2_with fail
        clear klist_0_0__229 kname_1_0__230 klight_2_0
        have bd6 : Below w_index_18.heap.size w_index_18 w_index_18.drew := (Below.refl _ _).drew
        have HBw_index_18.drew := Lib.hid (Below.step HBw_index_18.out bd6)
        replace klist_0_0__231 := cell_below bd6 klist_0_0__231
        replace kname_1_0__232 := cell_below bd6 kname_1_0__232
        replace klight_2_0__233 := cell_below bd6 klight_2_0__233
        replace kindex_18_0 := cell_below bd6 kindex_18_0
        clear bd6
        replace H := bind_hid H
        obtain ⟨t_25, qt_25, H⟩ := H
        replace H := let_hid H
        obtain ⟨t_28, ht_28, H⟩ := H
        replace H := bind_hid H
        obtain ⟨t_29, qt_29, H⟩ := H
        obtain ⟨w_others_30_p272, hw_others_30_p272⟩ : ∃ x, w_index_18.drew.alloc (.cells #[.slice none 0 0] 49) = x := ⟨_, rfl⟩
        have bw_others_30_p272 : Below w_index_18.drew.heap.size w_index_18.drew w_others_30_p272 := by rw [← hw_others_30_p272]; exact (Below.refl _ _).alloc (Nat.le_refl _) _
        have Dothers_30_list_0_p272 := Lib.hid (apart_box klist_0_0__231)
        have Dothers_30_name_1_p272 := Lib.hid (apart_box kname_1_0__232)
        have Dothers_30_light_2_p272 := Lib.hid (apart_box klight_2_0__233)
        have Dothers_30_index_18_p272 := Lib.hid (apart_box kindex_18_0)
        have HBw_others_30_p272 := Lib.hid (Below.step HBw_index_18.drew.out bw_others_30_p272)
        have klist_0_0__268_p272 := cell_below bw_others_30_p272 klist_0_0__231
        have kname_1_0__269_p272 := cell_below bw_others_30_p272 kname_1_0__232
        have klight_2_0__270_p272 := cell_below bw_others_30_p272 klight_2_0__233
        have kindex_18_0__271_p272 := cell_below bw_others_30_p272 kindex_18_0
        have kothers_30_0_p272 : w_others_30_p272.cell? ⟨w_index_18.heap.size, 0, none⟩ = some (.slice none 0 0) := by rw [← hw_others_30_p272]; exact box_new _ _ _ 0 _ rfl
        have Oothers_30_p272 : Hid (w_others_30_p272.ownsRow w.heap.size 49 1 (.slice (some ⟨w_index_18.heap.size, 0, none⟩) 1 1) 1 [.slice none 0 0]) := Lib.hid (by rw [← hw_others_30_p272]; exact own_laid (n := 1) HBw_index_18.drew.out.size rfl rfl (by unfold maxLen; omega))
        go_region_held3 (fun w' => w'.cell? ⟨w.heap.size, 0, none⟩ = some (.slice A0 list.length c0) ∧ w'.cell? ⟨w_list_0.heap.size, 0, none⟩ = some (.string name) ∧ w'.cell? ⟨w_name_1.heap.size, 0, none⟩ = some (.int .i64 light) ∧ w'.cell? ⟨wt_17.heap.size, 0, none⟩ = some (.int .i64 t_17)) (first | exact ⟨klist_0_0__231, kname_1_0__232, klight_2_0__233, kindex_18_0⟩ | exact ⟨klist_0_0__231_p243, kname_1_0__232_p243, klight_2_0__233_p243, kindex_18_0_p243⟩ | exact ⟨klist_0_0__231_p243_p244, kname_1_0__232_p243_p244, klight_2_0__233_p243_p244, kindex_18_0_p243_p244⟩ | exact ⟨klist_0_0__245_p249, kname_1_0__246_p249, klight_2_0__247_p249, kindex_18_0_p243_p244__248_p249⟩ | exact ⟨klist_0_0__250_p255, kname_1_0__251_p255, klight_2_0__252_p255, kindex_18_0_p243_p244__253_p255⟩ | exact ⟨klist_0_0__256_p260, kname_1_0__257_p260, klight_2_0__258_p260, kindex_18_0_p243__259_p260⟩ | exact ⟨klist_0_0__256_p260_p261, kname_1_0__257_p260_p261, klight_2_0__258_p260_p261, kindex_18_0_p243__259_p260_p261⟩ | exact ⟨klist_0_0__262_p267, kname_1_0__263_p267, klight_2_0__264_p267, kindex_18_0_p243__265_p267⟩ | exact ⟨klist_0_0__268_p272, kname_1_0__269_p272, klight_2_0__270_p272, kindex_18_0__271_p272⟩ | exact ⟨klist_0_0__268_p272_p273, kname_1_0__269_p272_p273, klight_2_0__270_p272_p273, kindex_18_0__271_p272_p273⟩ | exact ⟨klist_0_0__268_p272_p273_p274, kname_1_0__269_p272_p273_p274, klight_2_0__270_p272_p273_p274, kindex_18_0__271_p272_p273_p274⟩ | exact ⟨klist_0_0__275_p280, kname_1_0__276_p280, klight_2_0__277_p280, kindex_18_0__278_p280⟩)
            (first
              | (go_at_call 80
                 refine (Go.Proofs.YtkinlkmmelkdnaaDoor.GxSlicesCloneLoopExampleG01062ImplShadeLoopExampleG01062ImplShade.C (list) A0 c0 _   (Lib.hid (Cells.below M0.out HBw_index_18.drew.out)) N0 Q0 qt_25).mono ?_
                 rintro e_t_25_p243 wt_25_p243 ⟨At_25_p243, ct_25_p243, rfl, ot_25_p243, bt_25_p243⟩
                 have Dt_25_list_0_p243 := Lib.hid (apart_callbox ot_25_p243 klist_0_0__231)
                 have Dt_25_name_1_p243 := Lib.hid (apart_callbox ot_25_p243 kname_1_0__232)
                 have Dt_25_light_2_p243 := Lib.hid (apart_callbox ot_25_p243 klight_2_0__233)
                 have Dt_25_index_18_p243 := Lib.hid (apart_callbox ot_25_p243 kindex_18_0)
                 have Ot_25_p243 := Lib.hid (own_lower ot_25_p243 HBw_index_18.drew.out.size)
                 have HBwt_25_p243 := Lib.hid (Below.step HBw_index_18.drew.out bt_25_p243)
                 have klist_0_0__231_p243 := cell_below bt_25_p243 klist_0_0__231
                 have kname_1_0__232_p243 := cell_below bt_25_p243 kname_1_0__232
                 have klight_2_0__233_p243 := cell_below bt_25_p243 klight_2_0__233
                 have kindex_18_0_p243 := cell_below bt_25_p243 kindex_18_0
                 clear qt_25
                 obtain ⟨w_others_30_p260, hw_others_30_p260⟩ : ∃ x, wt_25_p243.alloc (.cells #[.slice none 0 0] 49) = x := ⟨_, rfl⟩
                 have bw_others_30_p260 : Below wt_25_p243.heap.size wt_25_p243 w_others_30_p260 := by rw [← hw_others_30_p260]; exact (Below.refl _ _).alloc (Nat.le_refl _) _
                 have Dothers_30_t_25_p260 := Lib.hid (apart_fresh Ot_25_p243.out)
                 have Dothers_30_list_0_p260 := Lib.hid (apart_box klist_0_0__231_p243)
                 have Dothers_30_name_1_p260 := Lib.hid (apart_box kname_1_0__232_p243)
                 have Dothers_30_light_2_p260 := Lib.hid (apart_box klight_2_0__233_p243)
                 have Dothers_30_index_18_p260 := Lib.hid (apart_box kindex_18_0_p243)
                 have HBw_others_30_p260 := Lib.hid (Below.step HBwt_25_p243.out bw_others_30_p260)
                 have klist_0_0__256_p260 := cell_below bw_others_30_p260 klist_0_0__231_p243
                 have kname_1_0__257_p260 := cell_below bw_others_30_p260 kname_1_0__232_p243
                 have klight_2_0__258_p260 := cell_below bw_others_30_p260 klight_2_0__233_p243
                 have kindex_18_0_p243__259_p260 := cell_below bw_others_30_p260 kindex_18_0_p243
                 have Ot_25_p243_p260 := Lib.hid (own_below Ot_25_p243.out bw_others_30_p260)
                 have kothers_30_0_p260 : w_others_30_p260.cell? ⟨wt_25_p243.heap.size, 0, none⟩ = some (.slice none 0 0) := by rw [← hw_others_30_p260]; exact box_new _ _ _ 0 _ rfl
                 have Oothers_30_p260 : Hid (w_others_30_p260.ownsRow w.heap.size 49 1 (.slice (some ⟨wt_25_p243.heap.size, 0, none⟩) 1 1) 1 [.slice none 0 0]) := Lib.hid (by rw [← hw_others_30_p260]; exact own_laid (n := 1) HBwt_25_p243.out.size rfl rfl (by unfold maxLen; omega)))
              | (go_at_call 79
                 refine (Go.Proofs.YtkinlkmmelkdnaaDoor.GxSlicesDeleteLoopExampleG01062ImplShadeLoopExampleG01062ImplShade.C (t_25) (t_17) (t_28) At_25_p243 ct_25_p243 w.heap.size _   Ot_25_p243 (Lib.hid (own_max Ot_25_p243.out)) (Lib.hid HBwt_25_p243.out.size)  qt_29).mono ?_
                 rintro e_t_29_p244 wt_29_p244 ⟨At_29_p244, ct_29_p244, rfl, ot_29_p244, gt_29_p244, yt_29_p244⟩
                 have Pt_29_p244 := Lib.hid ot_29_p244
                 have Gt_29_p244 := Lib.hid gt_29_p244
                 have yt_29_p244 := Lib.hid yt_29_p244
                 have HBwt_29_p244 := Lib.hid (HBwt_25_p243.out.grown Gt_29_p244.out HBwt_25_p243.out.size (fun q hq => (Ot_25_p243.out.lt q hq).1))
                 have Dt_29_list_0_p244 : Hid (Apart At_29_p244 _) := Lib.hid (Go.Proofs.YtkinlkmmelkdnaaDoor.GoK.apart_from Dt_25_list_0_p243.out (fun a_ ha_ => by cases ha_; exact cell_lt klist_0_0__231_p243) yt_29_p244.out)
                 have Dt_29_name_1_p244 : Hid (Apart At_29_p244 _) := Lib.hid (Go.Proofs.YtkinlkmmelkdnaaDoor.GoK.apart_from Dt_25_name_1_p243.out (fun a_ ha_ => by cases ha_; exact cell_lt kname_1_0__232_p243) yt_29_p244.out)
                 have Dt_29_light_2_p244 : Hid (Apart At_29_p244 _) := Lib.hid (Go.Proofs.YtkinlkmmelkdnaaDoor.GoK.apart_from Dt_25_light_2_p243.out (fun a_ ha_ => by cases ha_; exact cell_lt klight_2_0__233_p243) yt_29_p244.out)
                 have Dt_29_index_18_p244 : Hid (Apart At_29_p244 _) := Lib.hid (Go.Proofs.YtkinlkmmelkdnaaDoor.GoK.apart_from Dt_25_index_18_p243.out (fun a_ ha_ => by cases ha_; exact cell_lt kindex_18_0_p243) yt_29_p244.out)
                 have klist_0_0__231_p243_p244 := cell_other klist_0_0__231_p243 Gt_29_p244.out Dt_25_list_0_p243.out
                 have kname_1_0__232_p243_p244 := cell_other kname_1_0__232_p243 Gt_29_p244.out Dt_25_name_1_p243.out
                 have klight_2_0__233_p243_p244 := cell_other klight_2_0__233_p243 Gt_29_p244.out Dt_25_light_2_p243.out
                 have kindex_18_0_p243_p244 := cell_other kindex_18_0_p243 Gt_29_p244.out Dt_25_index_18_p243.out
                 clear qt_29
                 obtain ⟨w_others_30_p249, hw_others_30_p249⟩ : ∃ x, wt_29_p244.alloc (.cells #[.slice none 0 0] 49) = x := ⟨_, rfl⟩
                 have bw_others_30_p249 : Below wt_29_p244.heap.size wt_29_p244 w_others_30_p249 := by rw [← hw_others_30_p249]; exact (Below.refl _ _).alloc (Nat.le_refl _) _
                 have Dothers_30_t_29_p249 := Lib.hid (apart_fresh Pt_29_p244.out)
                 have Dothers_30_list_0_p249 := Lib.hid (apart_box klist_0_0__231_p243_p244)
                 have Dothers_30_name_1_p249 := Lib.hid (apart_box kname_1_0__232_p243_p244)
                 have Dothers_30_light_2_p249 := Lib.hid (apart_box klight_2_0__233_p243_p244)
                 have Dothers_30_index_18_p249 := Lib.hid (apart_box kindex_18_0_p243_p244)
                 have HBw_others_30_p249 := Lib.hid (Below.step HBwt_29_p244.out bw_others_30_p249)
                 have klist_0_0__245_p249 := cell_below bw_others_30_p249 klist_0_0__231_p243_p244
                 have kname_1_0__246_p249 := cell_below bw_others_30_p249 kname_1_0__232_p243_p244
                 have klight_2_0__247_p249 := cell_below bw_others_30_p249 klight_2_0__233_p243_p244
                 have kindex_18_0_p243_p244__248_p249 := cell_below bw_others_30_p249 kindex_18_0_p243_p244
                 have Pt_29_p244_p249 := Lib.hid (own_below Pt_29_p244.out bw_others_30_p249)
                 have kothers_30_0_p249 : w_others_30_p249.cell? ⟨wt_29_p244.heap.size, 0, none⟩ = some (.slice none 0 0) := by rw [← hw_others_30_p249]; exact box_new _ _ _ 0 _ rfl
                 have Oothers_30_p249 : Hid (w_others_30_p249.ownsRow w.heap.size 49 1 (.slice (some ⟨wt_29_p244.heap.size, 0, none⟩) 1 1) 1 [.slice none 0 0]) := Lib.hid (by rw [← hw_others_30_p249]; exact own_laid (n := 1) HBwt_29_p244.out.size rfl rfl (by unfold maxLen; omega))
                 obtain ⟨wb31_31_p255, hwb31_31_p255⟩ : ∃ x, (w_others_30_p249).setCell ⟨wt_29_p244.heap.size, 0, none⟩ (.slice At_29_p244 t_29.length ct_29_p244) = x := ⟨_, rfl⟩
                 have z0b31_31_p255 := Oothers_30_p249.out.frozenAt 0
                 have Sb31_31_p255 := Lib.hid (own_stores [(0, .slice At_29_p244 t_29.length ct_29_p244)] Oothers_30_p249.out)
                 have Pb31_31_p255 : Hid (wb31_31_p255.ownsRow w.heap.size 49 1 (.slice (some ⟨wt_29_p244.heap.size, 0, none⟩) 1 1) 1 [.slice At_29_p244 t_29.length ct_29_p244]) := Lib.hid (by rw [← hwb31_31_p255]; exact Sb31_31_p255.out.1)
                 have Gb31_31_p255 : Hid (w_others_30_p249.grownBy wb31_31_p255 (Value.slice (some ⟨wt_29_p244.heap.size, 0, none⟩) 1 1).ownBlock) := Lib.hid (by rw [← hwb31_31_p255]; exact Sb31_31_p255.out.2)
                 have HBwb31_31_p255 := Lib.hid (HBw_others_30_p249.out.grown Gb31_31_p255.out HBw_others_30_p249.out.size (fun q hq => (Oothers_30_p249.out.lt q hq).1))
                 have klist_0_0__250_p255 := cell_other klist_0_0__245_p249 Gb31_31_p255.out Dothers_30_list_0_p249.out
                 have kname_1_0__251_p255 := cell_other kname_1_0__246_p249 Gb31_31_p255.out Dothers_30_name_1_p249.out
                 have klight_2_0__252_p255 := cell_other klight_2_0__247_p249 Gb31_31_p255.out Dothers_30_light_2_p249.out
                 have kindex_18_0_p243_p244__253_p255 := cell_other kindex_18_0_p243_p244__248_p249 Gb31_31_p255.out Dothers_30_index_18_p249.out
                 have Pt_29_p244_p249_p255 := Lib.hid (own_other Pt_29_p244_p249.out Gb31_31_p255.out Dothers_30_t_29_p249.out)
                 have kothers_30_0_p249__254_p255 : wb31_31_p255.cell? ⟨wt_29_p244.heap.size, 0, none⟩ = some (.slice At_29_p244 t_29.length ct_29_p244) := Pb31_31_p255.out.cells rfl 0 _ rfl)
              | (go_at_call 79
                 refine (Go.Proofs.YtkinlkmmelkdnaaDoor.GxSlicesDeleteLoopExampleG01062ImplShadeLoopExampleG01062ImplShade.C (t_25) (t_17) (t_28) At_25_p243 ct_25_p243 w.heap.size _   Ot_25_p243_p260 (Lib.hid (own_max Ot_25_p243_p260.out)) (Lib.hid HBw_others_30_p260.out.size)  qt_29).mono ?_
                 rintro e_t_29_p261 wt_29_p261 ⟨At_29_p261, ct_29_p261, rfl, ot_29_p261, gt_29_p261, yt_29_p261⟩
                 have Pt_29_p261 := Lib.hid ot_29_p261
                 have Gt_29_p261 := Lib.hid gt_29_p261
                 have yt_29_p261 := Lib.hid yt_29_p261
                 have HBwt_29_p261 := Lib.hid (HBw_others_30_p260.out.grown Gt_29_p261.out HBw_others_30_p260.out.size (fun q hq => (Ot_25_p243_p260.out.lt q hq).1))
                 have Dt_29_list_0_p261 : Hid (Apart At_29_p261 _) := Lib.hid (Go.Proofs.YtkinlkmmelkdnaaDoor.GoK.apart_from Dt_25_list_0_p243.out (fun a_ ha_ => by cases ha_; exact cell_lt klist_0_0__256_p260) yt_29_p261.out)
                 have Dt_29_name_1_p261 : Hid (Apart At_29_p261 _) := Lib.hid (Go.Proofs.YtkinlkmmelkdnaaDoor.GoK.apart_from Dt_25_name_1_p243.out (fun a_ ha_ => by cases ha_; exact cell_lt kname_1_0__257_p260) yt_29_p261.out)
                 have Dt_29_light_2_p261 : Hid (Apart At_29_p261 _) := Lib.hid (Go.Proofs.YtkinlkmmelkdnaaDoor.GoK.apart_from Dt_25_light_2_p243.out (fun a_ ha_ => by cases ha_; exact cell_lt klight_2_0__258_p260) yt_29_p261.out)
                 have Dt_29_index_18_p261 : Hid (Apart At_29_p261 _) := Lib.hid (Go.Proofs.YtkinlkmmelkdnaaDoor.GoK.apart_from Dt_25_index_18_p243.out (fun a_ ha_ => by cases ha_; exact cell_lt kindex_18_0_p243__259_p260) yt_29_p261.out)
                 have Dt_29_others_30_p261 : Hid (Apart At_29_p261 _) := Lib.hid (Go.Proofs.YtkinlkmmelkdnaaDoor.GoK.apart_from (Apart.symm Dothers_30_t_25_p260.out) (fun a_ ha_ => by cases ha_; exact cell_lt kothers_30_0_p260) yt_29_p261.out)
                 have klist_0_0__256_p260_p261 := cell_other klist_0_0__256_p260 Gt_29_p261.out Dt_25_list_0_p243.out
                 have kname_1_0__257_p260_p261 := cell_other kname_1_0__257_p260 Gt_29_p261.out Dt_25_name_1_p243.out
                 have klight_2_0__258_p260_p261 := cell_other klight_2_0__258_p260 Gt_29_p261.out Dt_25_light_2_p243.out
                 have kindex_18_0_p243__259_p260_p261 := cell_other kindex_18_0_p243__259_p260 Gt_29_p261.out Dt_25_index_18_p243.out
                 have kothers_30_0_p260_p261 := cell_other kothers_30_0_p260 Gt_29_p261.out (Apart.symm Dothers_30_t_25_p260.out)
                 have Oothers_30_p260_p261 := Lib.hid (own_other Oothers_30_p260.out Gt_29_p261.out (Apart.symm Dothers_30_t_25_p260.out))
                 clear qt_29
                 obtain ⟨wb31_31_p267, hwb31_31_p267⟩ : ∃ x, (wt_29_p261).setCell ⟨wt_25_p243.heap.size, 0, none⟩ (.slice At_29_p261 t_29.length ct_29_p261) = x := ⟨_, rfl⟩
                 have z0b31_31_p267 := Oothers_30_p260_p261.out.frozenAt 0
                 have Sb31_31_p267 := Lib.hid (own_stores [(0, .slice At_29_p261 t_29.length ct_29_p261)] Oothers_30_p260_p261.out)
                 have Pb31_31_p267 : Hid (wb31_31_p267.ownsRow w.heap.size 49 1 (.slice (some ⟨wt_25_p243.heap.size, 0, none⟩) 1 1) 1 [.slice At_29_p261 t_29.length ct_29_p261]) := Lib.hid (by rw [← hwb31_31_p267]; exact Sb31_31_p267.out.1)
                 have Gb31_31_p267 : Hid (wt_29_p261.grownBy wb31_31_p267 (Value.slice (some ⟨wt_25_p243.heap.size, 0, none⟩) 1 1).ownBlock) := Lib.hid (by rw [← hwb31_31_p267]; exact Sb31_31_p267.out.2)
                 have HBwb31_31_p267 := Lib.hid (HBwt_29_p261.out.grown Gb31_31_p267.out HBwt_29_p261.out.size (fun q hq => (Oothers_30_p260_p261.out.lt q hq).1))
                 have klist_0_0__262_p267 := cell_other klist_0_0__256_p260_p261 Gb31_31_p267.out Dothers_30_list_0_p260.out
                 have kname_1_0__263_p267 := cell_other kname_1_0__257_p260_p261 Gb31_31_p267.out Dothers_30_name_1_p260.out
                 have klight_2_0__264_p267 := cell_other klight_2_0__258_p260_p261 Gb31_31_p267.out Dothers_30_light_2_p260.out
                 have kindex_18_0_p243__265_p267 := cell_other kindex_18_0_p243__259_p260_p261 Gb31_31_p267.out Dothers_30_index_18_p260.out
                 have Pt_29_p261_p267 := Lib.hid (own_other Pt_29_p261.out Gb31_31_p267.out (Apart.symm Dt_29_others_30_p261.out))
                 have kothers_30_0_p260_p261__266_p267 : wb31_31_p267.cell? ⟨wt_25_p243.heap.size, 0, none⟩ = some (.slice At_29_p261 t_29.length ct_29_p261) := Pb31_31_p267.out.cells rfl 0 _ rfl)
              | (go_at_call 80
                 refine (Go.Proofs.YtkinlkmmelkdnaaDoor.GxSlicesCloneLoopExampleG01062ImplShadeLoopExampleG01062ImplShade.C (list) A0 c0 _   (Lib.hid (Cells.below M0.out HBw_others_30_p272.out)) N0 Q0 qt_25).mono ?_
                 rintro e_t_25_p273 wt_25_p273 ⟨At_25_p273, ct_25_p273, rfl, ot_25_p273, bt_25_p273⟩
                 have Dt_25_list_0_p273 := Lib.hid (apart_callbox ot_25_p273 klist_0_0__268_p272)
                 have Dt_25_name_1_p273 := Lib.hid (apart_callbox ot_25_p273 kname_1_0__269_p272)
                 have Dt_25_light_2_p273 := Lib.hid (apart_callbox ot_25_p273 klight_2_0__270_p272)
                 have Dt_25_index_18_p273 := Lib.hid (apart_callbox ot_25_p273 kindex_18_0__271_p272)
                 have Dt_25_others_30_p273 := Lib.hid (apart_callbox ot_25_p273 kothers_30_0_p272)
                 have Ot_25_p273 := Lib.hid (own_lower ot_25_p273 HBw_others_30_p272.out.size)
                 have HBwt_25_p273 := Lib.hid (Below.step HBw_others_30_p272.out bt_25_p273)
                 have klist_0_0__268_p272_p273 := cell_below bt_25_p273 klist_0_0__268_p272
                 have kname_1_0__269_p272_p273 := cell_below bt_25_p273 kname_1_0__269_p272
                 have klight_2_0__270_p272_p273 := cell_below bt_25_p273 klight_2_0__270_p272
                 have kindex_18_0__271_p272_p273 := cell_below bt_25_p273 kindex_18_0__271_p272
                 have kothers_30_0_p272_p273 := cell_below bt_25_p273 kothers_30_0_p272
                 have Oothers_30_p272_p273 := Lib.hid (own_below Oothers_30_p272.out bt_25_p273)
                 clear qt_25)
              | (go_at_call 79
                 refine (Go.Proofs.YtkinlkmmelkdnaaDoor.GxSlicesDeleteLoopExampleG01062ImplShadeLoopExampleG01062ImplShade.C (t_25) (t_17) (t_28) At_25_p273 ct_25_p273 w.heap.size _   Ot_25_p273 (Lib.hid (own_max Ot_25_p273.out)) (Lib.hid HBwt_25_p273.out.size)  qt_29).mono ?_
                 rintro e_t_29_p274 wt_29_p274 ⟨At_29_p274, ct_29_p274, rfl, ot_29_p274, gt_29_p274, yt_29_p274⟩
                 have Pt_29_p274 := Lib.hid ot_29_p274
                 have Gt_29_p274 := Lib.hid gt_29_p274
                 have yt_29_p274 := Lib.hid yt_29_p274
                 have HBwt_29_p274 := Lib.hid (HBwt_25_p273.out.grown Gt_29_p274.out HBwt_25_p273.out.size (fun q hq => (Ot_25_p273.out.lt q hq).1))
                 have Dt_29_list_0_p274 : Hid (Apart At_29_p274 _) := Lib.hid (Go.Proofs.YtkinlkmmelkdnaaDoor.GoK.apart_from Dt_25_list_0_p273.out (fun a_ ha_ => by cases ha_; exact cell_lt klist_0_0__268_p272_p273) yt_29_p274.out)
                 have Dt_29_name_1_p274 : Hid (Apart At_29_p274 _) := Lib.hid (Go.Proofs.YtkinlkmmelkdnaaDoor.GoK.apart_from Dt_25_name_1_p273.out (fun a_ ha_ => by cases ha_; exact cell_lt kname_1_0__269_p272_p273) yt_29_p274.out)
                 have Dt_29_light_2_p274 : Hid (Apart At_29_p274 _) := Lib.hid (Go.Proofs.YtkinlkmmelkdnaaDoor.GoK.apart_from Dt_25_light_2_p273.out (fun a_ ha_ => by cases ha_; exact cell_lt klight_2_0__270_p272_p273) yt_29_p274.out)
                 have Dt_29_index_18_p274 : Hid (Apart At_29_p274 _) := Lib.hid (Go.Proofs.YtkinlkmmelkdnaaDoor.GoK.apart_from Dt_25_index_18_p273.out (fun a_ ha_ => by cases ha_; exact cell_lt kindex_18_0__271_p272_p273) yt_29_p274.out)
                 have Dt_29_others_30_p274 : Hid (Apart At_29_p274 _) := Lib.hid (Go.Proofs.YtkinlkmmelkdnaaDoor.GoK.apart_from Dt_25_others_30_p273.out (fun a_ ha_ => by cases ha_; exact cell_lt kothers_30_0_p272_p273) yt_29_p274.out)
                 have klist_0_0__268_p272_p273_p274 := cell_other klist_0_0__268_p272_p273 Gt_29_p274.out Dt_25_list_0_p273.out
                 have kname_1_0__269_p272_p273_p274 := cell_other kname_1_0__269_p272_p273 Gt_29_p274.out Dt_25_name_1_p273.out
                 have klight_2_0__270_p272_p273_p274 := cell_other klight_2_0__270_p272_p273 Gt_29_p274.out Dt_25_light_2_p273.out
                 have kindex_18_0__271_p272_p273_p274 := cell_other kindex_18_0__271_p272_p273 Gt_29_p274.out Dt_25_index_18_p273.out
                 have kothers_30_0_p272_p273_p274 := cell_other kothers_30_0_p272_p273 Gt_29_p274.out Dt_25_others_30_p273.out
                 have Oothers_30_p272_p273_p274 := Lib.hid (own_other Oothers_30_p272_p273.out Gt_29_p274.out Dt_25_others_30_p273.out)
                 clear qt_29
                 obtain ⟨wb31_31_p280, hwb31_31_p280⟩ : ∃ x, (wt_29_p274).setCell ⟨w_index_18.heap.size, 0, none⟩ (.slice At_29_p274 t_29.length ct_29_p274) = x := ⟨_, rfl⟩
                 have z0b31_31_p280 := Oothers_30_p272_p273_p274.out.frozenAt 0
                 have Sb31_31_p280 := Lib.hid (own_stores [(0, .slice At_29_p274 t_29.length ct_29_p274)] Oothers_30_p272_p273_p274.out)
                 have Pb31_31_p280 : Hid (wb31_31_p280.ownsRow w.heap.size 49 1 (.slice (some ⟨w_index_18.heap.size, 0, none⟩) 1 1) 1 [.slice At_29_p274 t_29.length ct_29_p274]) := Lib.hid (by rw [← hwb31_31_p280]; exact Sb31_31_p280.out.1)
                 have Gb31_31_p280 : Hid (wt_29_p274.grownBy wb31_31_p280 (Value.slice (some ⟨w_index_18.heap.size, 0, none⟩) 1 1).ownBlock) := Lib.hid (by rw [← hwb31_31_p280]; exact Sb31_31_p280.out.2)
                 have HBwb31_31_p280 := Lib.hid (HBwt_29_p274.out.grown Gb31_31_p280.out HBwt_29_p274.out.size (fun q hq => (Oothers_30_p272_p273_p274.out.lt q hq).1))
                 have klist_0_0__275_p280 := cell_other klist_0_0__268_p272_p273_p274 Gb31_31_p280.out Dothers_30_list_0_p272.out
                 have kname_1_0__276_p280 := cell_other kname_1_0__269_p272_p273_p274 Gb31_31_p280.out Dothers_30_name_1_p272.out
                 have klight_2_0__277_p280 := cell_other klight_2_0__270_p272_p273_p274 Gb31_31_p280.out Dothers_30_light_2_p272.out
                 have kindex_18_0__278_p280 := cell_other kindex_18_0__271_p272_p273_p274 Gb31_31_p280.out Dothers_30_index_18_p272.out
                 have Pt_29_p274_p280 := Lib.hid (own_other Pt_29_p274.out Gb31_31_p280.out (Apart.symm Dt_29_others_30_p274.out))
                 have kothers_30_0_p272_p273_p274__279_p280 : wb31_31_p280.cell? ⟨w_index_18.heap.size, 0, none⟩ = some (.slice At_29_p274 t_29.length ct_29_p274) := Pb31_31_p280.out.cells rfl 0 _ rfl))
        · skip
          replace H := bind_hid H
          obtain ⟨t_33, qt_33, H⟩ := H
          go_wp2_with fail
          go_at_call 81
          refine (Go.Proofs.YtkinlkmmelkdnaaDoor.GiCountHuesiCertainHues2.C (list) (t_17) (light) (t_29) A0 c0 At_29_p244 ct_29_p244 (w.heap.size) (wt_17.heap.size) (w_name_1.heap.size) (wt_29_p244.heap.size) _   (Lib.hid (Cells.below M0.out HBwb31_31_p255.out)) N0 (Lib.hid (own_cells Pt_29_p244_p249_p255.out)) (Lib.hid (own_max Pt_29_p244_p249_p255.out)) (Lib.hid klist_0_0__250_p255) (Lib.hid kindex_18_0_p243_p244__253_p255) (Lib.hid klight_2_0__252_p255) (Lib.hid kothers_30_0_p249__254_p255) qt_33).mono ?_
          rintro e_t_33 wt_33 ⟨rfl, bt_33⟩
          have HBwt_33 := Lib.hid (Below.step HBwb31_31_p255.out bt_33)
          replace klist_0_0__250_p255 := cell_below bt_33 klist_0_0__250_p255
          replace kname_1_0__251_p255 := cell_below bt_33 kname_1_0__251_p255
          replace klight_2_0__252_p255 := cell_below bt_33 klight_2_0__252_p255
          replace kindex_18_0_p243_p244__253_p255 := cell_below bt_33 kindex_18_0_p243_p244__253_p255
          replace kothers_30_0_p249__254_p255 := cell_below bt_33 kothers_30_0_p249__254_p255
          replace Pt_29_p244_p249_p255 := Lib.hid (own_below Pt_29_p244_p249_p255.out bt_33)
          replace Pb31_31_p255 := Lib.hid (own_below Pb31_31_p255.out bt_33)
          clear bt_33
          cases ret_hid H
          go_wp2_with fail
          go_ret2
          exact ⟨rfl, HBwt_33.out⟩
        · skip
          replace H := bind_hid H
          obtain ⟨t_33, qt_33, H⟩ := H
          go_wp2_with fail
          go_at_call 81
          refine (Go.Proofs.YtkinlkmmelkdnaaDoor.GiCountHuesiCertainHues2.C (list) (t_17) (light) (t_29) A0 c0 At_29_p261 ct_29_p261 (w.heap.size) (wt_17.heap.size) (w_name_1.heap.size) (wt_25_p243.heap.size) _   (Lib.hid (Cells.below M0.out HBwb31_31_p267.out)) N0 (Lib.hid (own_cells Pt_29_p261_p267.out)) (Lib.hid (own_max Pt_29_p261_p267.out)) (Lib.hid klist_0_0__262_p267) (Lib.hid kindex_18_0_p243__265_p267) (Lib.hid klight_2_0__264_p267) (Lib.hid kothers_30_0_p260_p261__266_p267) qt_33).mono ?_
          rintro e_t_33 wt_33 ⟨rfl, bt_33⟩
          have HBwt_33 := Lib.hid (Below.step HBwb31_31_p267.out bt_33)
          replace klist_0_0__262_p267 := cell_below bt_33 klist_0_0__262_p267
          replace kname_1_0__263_p267 := cell_below bt_33 kname_1_0__263_p267
          replace klight_2_0__264_p267 := cell_below bt_33 klight_2_0__264_p267
          replace kindex_18_0_p243__265_p267 := cell_below bt_33 kindex_18_0_p243__265_p267
          replace kothers_30_0_p260_p261__266_p267 := cell_below bt_33 kothers_30_0_p260_p261__266_p267
          replace Pt_29_p261_p267 := Lib.hid (own_below Pt_29_p261_p267.out bt_33)
          replace Pb31_31_p267 := Lib.hid (own_below Pb31_31_p267.out bt_33)
          clear bt_33
          cases ret_hid H
          go_wp2_with fail
          go_ret2
          exact ⟨rfl, HBwt_33.out⟩
        · skip
          replace H := bind_hid H
          obtain ⟨t_33, qt_33, H⟩ := H
          go_wp2_with fail
          go_at_call 81
          refine (Go.Proofs.YtkinlkmmelkdnaaDoor.GiCountHuesiCertainHues2.C (list) (t_17) (light) (t_29) A0 c0 At_29_p274 ct_29_p274 (w.heap.size) (wt_17.heap.size) (w_name_1.heap.size) (w_index_18.heap.size) _   (Lib.hid (Cells.below M0.out HBwb31_31_p280.out)) N0 (Lib.hid (own_cells Pt_29_p274_p280.out)) (Lib.hid (own_max Pt_29_p274_p280.out)) (Lib.hid klist_0_0__275_p280) (Lib.hid kindex_18_0__278_p280) (Lib.hid klight_2_0__277_p280) (Lib.hid kothers_30_0_p272_p273_p274__279_p280) qt_33).mono ?_
          rintro e_t_33 wt_33 ⟨rfl, bt_33⟩
          have HBwt_33 := Lib.hid (Below.step HBwb31_31_p280.out bt_33)
          replace klist_0_0__275_p280 := cell_below bt_33 klist_0_0__275_p280
          replace kname_1_0__276_p280 := cell_below bt_33 kname_1_0__276_p280
          replace klight_2_0__277_p280 := cell_below bt_33 klight_2_0__277_p280
          replace kindex_18_0__278_p280 := cell_below bt_33 kindex_18_0__278_p280
          replace kothers_30_0_p272_p273_p274__279_p280 := cell_below bt_33 kothers_30_0_p272_p273_p274__279_p280
          replace Pt_29_p274_p280 := Lib.hid (own_below Pt_29_p274_p280.out bt_33)
          replace Pb31_31_p280 := Lib.hid (own_below Pb31_31_p280.out bt_33)
          clear bt_33
          cases ret_hid H
          go_wp2_with fail
          go_ret2
          exact ⟨rfl, HBwt_33.out⟩
      | true =>
        replace H := ite_t H
        cases ret_hid H
        go_wp2_with fail
        go_ret2
        exact ⟨rfl, HBw_index_18.out⟩
end Go.Proofs.YtkinlkmmelkdnaaDoor.GiCertainHues

/- loop.example/g01062/spec.l2Word as a plain function, and the contract of the program's: where the plain one has an answer, the program has it. Conditions: slices read as lists. -/
namespace Go.Proofs.YtkinlkmmelkdnaaDoor.GsL2Word
set_option linter.unusedVariables false
set_option linter.unusedSimpArgs false
open Go.RowKit
open Go.Proofs.YtkinlkmmelkdnaaDoor.Rowed Go.Proofs.YtkinlkmmelkdnaaDoor.Turn Go.Proofs.YtkinlkmmelkdnaaDoor.Aid Go.Proofs.YtkinlkmmelkdnaaDoor.GoP Go.Proofs.YtkinlkmmelkdnaaDoor.GoM

def l0 (s_0 : ByteArray) (k0 : Nat) (s : Unit) (nx0 bk0 : Unit → Option (Bool)) : Option (Bool) :=
  
  Option.bind (idx s_0.toList (k0 : Int)) fun (yt_8 : UInt8) =>
  letK ((yt_8.toNat : Int)) fun (t_8 : Int) =>
  letK (decide (t_8 < 97)) fun (t_9 : Bool) =>
  joinK (fun (t_15 : Bool) =>
  iteK t_15
  (some false)
  (appK nx0 ())) fun jt_15 => iteK t_9 (appK jt_15 true) (Option.bind (idx s_0.toList (k0 : Int)) fun (yt_13 : UInt8) =>
  letK ((yt_13.toNat : Int)) fun (t_13 : Int) =>
  letK (decide (122 < t_13)) fun (t_14 : Bool) =>
  appK jt_15 t_14)

def e0 (s_0 : ByteArray) (s : Unit) : Option (Bool) :=
  
  Option.bind (Go.Proofs.YtkinlkmmelkdnaaDoor.GsL1In.P (s_0.size : Int) 1 10) fun (t_22 : Bool) =>
  some t_22

def P (s_0 : ByteArray) : Option (Bool) :=
  guardK (s_0.size ≤ 9223372036854775807) <|
  cntK (l0 s_0) (s_0.size) 0 () (e0 s_0)

set_option maxRecDepth 100000 in
set_option maxHeartbeats 2000000 in
theorem C (s_0 : ByteArray)   (w : World)   {r : Bool} (H : Hid (P s_0 = some r)) :
    Calls Tryd.prog 110 #[.string s_0] w (Gives (.bool r) w) := by
  have HB := Lib.hid (Below.refl w.heap.size w)
  unfold P at H
  go_enter Tryd.func110, Tryd.ntmps110
  replace H := guard_hid H
  obtain ⟨hg0, H⟩ := H
  go_wp2_with fail
  go_loopg [3] (s_0.size) (fun m_ v3_ wr => ∃ (k0 : Nat) , k0 + m_ = s_0.size ∧ v3_ = .int .i64 (k0 : Int) ∧ Hid (cntK (l0 s_0) m_ k0 () (e0 s_0) = some r) ∧ Hid (Below w.heap.size w wr))
  case atStart => exact ⟨0, by omega, rfl, H, HB⟩
  case round =>
    obtain ⟨k0, hkm0, rfl, H, HBwr0⟩ := hrel
    rename World => wr0
    cases gk with
    | zero =>
      obtain rfl : k0 = s_0.size := by omega
      have hc0 : decide (((s_0.size : Nat) : Int) < ((s_0.size : Nat) : Int)) = false := by simp
      replace H := cnt_zero H
      unfold e0 at H
      replace H := bind_hid H
      obtain ⟨t_22, qt_22, H⟩ := H
      go_wp2_with fail
      go_at_call 86
      refine (Go.Proofs.YtkinlkmmelkdnaaDoor.GsL1In.C ((s_0.size : Int)) (1) (10)  _    qt_22).mono ?_
      rintro e_t_22 wt_22 ⟨rfl, bt_22⟩
      have HBwt_22 := Lib.hid (Below.step HBwr0.out bt_22)
      clear bt_22
      obtain rfl := ret_hid H
      go_wp2_with fail
      go_ret
      exact ⟨rfl, HBwt_22.out⟩
    | succ m0 =>
      have hlt0 : k0 < s_0.size := by omega
      have hc0 : decide ((k0 : Int) < ((s_0.size : Nat) : Int)) = true := by simp; omega
      replace H := cnt_succ H
      unfold l0 at H
      replace H := idx_hid H
      obtain ⟨nt_8, yt_8, et_8, lt_8, gt_8, H⟩ := H
      obtain rfl : k0 = nt_8 := by omega
      clear et_8
      have rt_8 := byte_rule lt_8 gt_8.out
      have b0t_8 : (0 : Int) ≤ (k0 : Int) := by omega
      have b1t_8 : (k0 : Int) < (s_0.size : Int) := by have := size_list s_0; omega
      have b2t_8 : ((k0 : Int)).toNat = k0 := by omega
      have b3t_8 : k0 < s_0.size := by have := size_list s_0; omega
      replace H := let_hid H
      obtain ⟨t_8, ht_8, H⟩ := H
      replace H := let_hid H
      obtain ⟨t_9, ht_9, H⟩ := H
      replace H := join_hid H
      cases t_9 with
      | false =>
        replace H := ite_f H
        replace H := idx_hid H
        obtain ⟨nt_13, yt_13, et_13, lt_13, gt_13, H⟩ := H
        obtain rfl : k0 = nt_13 := by omega
        clear et_13
        obtain rfl := Option.some.inj (gt_8.out.symm.trans gt_13.out)
        clear gt_13 lt_13
        replace H := let_hid H
        obtain ⟨t_13, ht_13, H⟩ := H
        obtain rfl := ht_8.symm.trans ht_13
        replace H := let_hid H
        obtain ⟨t_14, ht_14, H⟩ := H
        replace H := app_hid H
        cases t_14 with
        | false =>
          replace H := ite_f H
          replace H := app_hid H
          go_wp2_with fail
          go_roundg m0
          case measure => omega
          case rel => exact ⟨k0 + 1, by omega, by go_num, H, HBwr0⟩
        | true =>
          replace H := ite_t H
          obtain rfl := ret_hid H
          go_wp2_with fail
          go_ret
          exact ⟨rfl, HBwr0.out⟩
      | true =>
        replace H := ite_t H
        replace H := app_hid H
        replace H := ite_t H
        obtain rfl := ret_hid H
        go_wp2_with fail
        go_ret
        exact ⟨rfl, HBwr0.out⟩
end Go.Proofs.YtkinlkmmelkdnaaDoor.GsL2Word

/- loop.example/g01062/spec.l7One as a plain function, and the contract of the program's: where the plain one has an answer, the program has it. Conditions: slices read as lists. -/
namespace Go.Proofs.YtkinlkmmelkdnaaDoor.GsL7One
set_option linter.unusedVariables false
set_option linter.unusedSimpArgs false
open Go.RowKit
open Go.Proofs.YtkinlkmmelkdnaaDoor.Rowed Go.Proofs.YtkinlkmmelkdnaaDoor.Turn Go.Proofs.YtkinlkmmelkdnaaDoor.Aid Go.Proofs.YtkinlkmmelkdnaaDoor.GoP Go.Proofs.YtkinlkmmelkdnaaDoor.GoM

def P (x : Go.Proofs.YtkinlkmmelkdnaaDoor.PShade.Shade) : Option (Bool) :=
  unShade x fun (x_name : ByteArray) (x_hue : Int) (x_width : Int) (x_dark : Int) (x_light : Int) =>
  Option.bind (Go.Proofs.YtkinlkmmelkdnaaDoor.GsL2Word.P x_name) fun (t_4 : Bool) =>
  joinK (fun (t_9 : Bool) =>
  joinK (fun (t_14 : Bool) =>
  joinK (fun (t_19 : Bool) =>
  joinK (fun (t_26 : Bool) =>
  some t_26) fun jt_26 => iteK t_19 (Option.bind (Go.Proofs.YtkinlkmmelkdnaaDoor.GsL1In.P x_dark 0 x_light) fun (t_25 : Bool) =>
  appK jt_26 t_25) (appK jt_26 false)) fun jt_19 => iteK t_14 (Option.bind (Go.Proofs.YtkinlkmmelkdnaaDoor.GsL1In.P x_light 0 100) fun (t_18 : Bool) =>
  appK jt_19 t_18) (appK jt_19 false)) fun jt_14 => iteK t_9 (Option.bind (Go.Proofs.YtkinlkmmelkdnaaDoor.GsL1In.P x_width 0 179) fun (t_13 : Bool) =>
  appK jt_14 t_13) (appK jt_14 false)) fun jt_9 => iteK t_4 (Option.bind (Go.Proofs.YtkinlkmmelkdnaaDoor.GsL7Hue.P x_hue) fun (t_8 : Bool) =>
  appK jt_9 t_8) (appK jt_9 false)

set_option maxRecDepth 100000 in
set_option maxHeartbeats 2000000 in
theorem C (x : Go.Proofs.YtkinlkmmelkdnaaDoor.PShade.Shade)   (w : World)   {r : Bool} (H : Hid (P x = some r)) :
    Calls Tryd.prog 92 #[x.val] w (Gives (.bool r) w) := by
  have HB := Lib.hid (Below.refl w.heap.size w)
  unfold P at H
  obtain ⟨x_name, x_hue, x_width, x_dark, x_light⟩ := x
  replace H := unShade_hid H
  unfold Go.Proofs.YtkinlkmmelkdnaaDoor.PShade.Shade.val
  go_enter Tryd.func92, Tryd.ntmps92
  obtain ⟨w_x_0, hw_x_0⟩ : ∃ x, w.alloc (.cells #[.string x_name, .int .i64 x_hue, .int .i64 x_width, .int .i64 x_dark, .int .i64 x_light] 54) = x := ⟨_, rfl⟩
  have bw_x_0 : Below w.heap.size w w_x_0 := by rw [← hw_x_0]; exact (Below.refl _ _).alloc (Nat.le_refl _) _
  have HBw_x_0 := Lib.hid (Below.step HB.out bw_x_0)
  clear bw_x_0
  have kx_0_0 : w_x_0.cell? ⟨w.heap.size, 0, none⟩ = some (.string x_name) := by rw [← hw_x_0]; exact box_new _ _ _ 0 _ rfl
  have kx_0_1 : w_x_0.cell? ⟨w.heap.size, 1, none⟩ = some (.int .i64 x_hue) := by rw [← hw_x_0]; exact box_new _ _ _ 1 _ rfl
  have kx_0_2 : w_x_0.cell? ⟨w.heap.size, 2, none⟩ = some (.int .i64 x_width) := by rw [← hw_x_0]; exact box_new _ _ _ 2 _ rfl
  have kx_0_3 : w_x_0.cell? ⟨w.heap.size, 3, none⟩ = some (.int .i64 x_dark) := by rw [← hw_x_0]; exact box_new _ _ _ 3 _ rfl
  have kx_0_4 : w_x_0.cell? ⟨w.heap.size, 4, none⟩ = some (.int .i64 x_light) := by rw [← hw_x_0]; exact box_new _ _ _ 4 _ rfl
  replace H := bind_hid H
  obtain ⟨t_4, qt_4, H⟩ := H
  go_wp2_with fail
  go_at_call 110
  refine (Go.Proofs.YtkinlkmmelkdnaaDoor.GsL2Word.C (x_name)  _    qt_4).mono ?_
  rintro e_t_4 wt_4 ⟨rfl, bt_4⟩
  have HBwt_4 := Lib.hid (Below.step HBw_x_0.out bt_4)
  replace kx_0_0 := cell_below bt_4 kx_0_0
  replace kx_0_1 := cell_below bt_4 kx_0_1
  replace kx_0_2 := cell_below bt_4 kx_0_2
  replace kx_0_3 := cell_below bt_4 kx_0_3
  replace kx_0_4 := cell_below bt_4 kx_0_4
  clear bt_4
  replace H := join_hid H
  cases t_4 with
  | false =>
    replace H := ite_f H
    replace H := app_hid H
    replace H := join_hid H
    replace H := ite_f H
    replace H := app_hid H
    replace H := join_hid H
    replace H := ite_f H
    replace H := app_hid H
    replace H := join_hid H
    replace H := ite_f H
    replace H := app_hid H
    obtain rfl := ret_hid H
    go_wp2_with fail
    go_ret
    exact ⟨rfl, HBwt_4.out⟩
  | true =>
    replace H := ite_t H
    replace H := bind_hid H
    obtain ⟨t_8, qt_8, H⟩ := H
    go_wp2_with fail
    go_at_call 66
    refine (Go.Proofs.YtkinlkmmelkdnaaDoor.GsL7Hue.C (x_hue)  _    qt_8).mono ?_
    rintro e_t_8 wt_8 ⟨rfl, bt_8⟩
    have HBwt_8 := Lib.hid (Below.step HBwt_4.out bt_8)
    replace kx_0_0 := cell_below bt_8 kx_0_0
    replace kx_0_1 := cell_below bt_8 kx_0_1
    replace kx_0_2 := cell_below bt_8 kx_0_2
    replace kx_0_3 := cell_below bt_8 kx_0_3
    replace kx_0_4 := cell_below bt_8 kx_0_4
    clear bt_8
    replace H := app_hid H
    replace H := join_hid H
    cases t_8 with
    | false =>
      replace H := ite_f H
      replace H := app_hid H
      replace H := join_hid H
      replace H := ite_f H
      replace H := app_hid H
      replace H := join_hid H
      replace H := ite_f H
      replace H := app_hid H
      obtain rfl := ret_hid H
      go_wp2_with fail
      go_ret
      exact ⟨rfl, HBwt_8.out⟩
    | true =>
      replace H := ite_t H
      replace H := bind_hid H
      obtain ⟨t_13, qt_13, H⟩ := H
      go_wp2_with fail
      go_at_call 86
      refine (Go.Proofs.YtkinlkmmelkdnaaDoor.GsL1In.C (x_width) (0) (179)  _    qt_13).mono ?_
      rintro e_t_13 wt_13 ⟨rfl, bt_13⟩
      have HBwt_13 := Lib.hid (Below.step HBwt_8.out bt_13)
      replace kx_0_0 := cell_below bt_13 kx_0_0
      replace kx_0_1 := cell_below bt_13 kx_0_1
      replace kx_0_2 := cell_below bt_13 kx_0_2
      replace kx_0_3 := cell_below bt_13 kx_0_3
      replace kx_0_4 := cell_below bt_13 kx_0_4
      clear bt_13
      replace H := app_hid H
      replace H := join_hid H
      cases t_13 with
      | false =>
        replace H := ite_f H
        replace H := app_hid H
        replace H := join_hid H
        replace H := ite_f H
        replace H := app_hid H
        obtain rfl := ret_hid H
        go_wp2_with fail
        go_ret
        exact ⟨rfl, HBwt_13.out⟩
      | true =>
        replace H := ite_t H
        replace H := bind_hid H
        obtain ⟨t_18, qt_18, H⟩ := H
        go_wp2_with fail
        go_at_call 86
        refine (Go.Proofs.YtkinlkmmelkdnaaDoor.GsL1In.C (x_light) (0) (100)  _    qt_18).mono ?_
        rintro e_t_18 wt_18 ⟨rfl, bt_18⟩
        have HBwt_18 := Lib.hid (Below.step HBwt_13.out bt_18)
        replace kx_0_0 := cell_below bt_18 kx_0_0
        replace kx_0_1 := cell_below bt_18 kx_0_1
        replace kx_0_2 := cell_below bt_18 kx_0_2
        replace kx_0_3 := cell_below bt_18 kx_0_3
        replace kx_0_4 := cell_below bt_18 kx_0_4
        clear bt_18
        replace H := app_hid H
        replace H := join_hid H
        cases t_18 with
        | false =>
          replace H := ite_f H
          replace H := app_hid H
          obtain rfl := ret_hid H
          go_wp2_with fail
          go_ret
          exact ⟨rfl, HBwt_18.out⟩
        | true =>
          replace H := ite_t H
          replace H := bind_hid H
          obtain ⟨t_25, qt_25, H⟩ := H
          go_wp2_with fail
          go_at_call 86
          refine (Go.Proofs.YtkinlkmmelkdnaaDoor.GsL1In.C (x_dark) (0) (x_light)  _    qt_25).mono ?_
          rintro e_t_25 wt_25 ⟨rfl, bt_25⟩
          have HBwt_25 := Lib.hid (Below.step HBwt_18.out bt_25)
          replace kx_0_0 := cell_below bt_25 kx_0_0
          replace kx_0_1 := cell_below bt_25 kx_0_1
          replace kx_0_2 := cell_below bt_25 kx_0_2
          replace kx_0_3 := cell_below bt_25 kx_0_3
          replace kx_0_4 := cell_below bt_25 kx_0_4
          clear bt_25
          replace H := app_hid H
          obtain rfl := ret_hid H
          go_wp2_with fail
          go_ret
          exact ⟨rfl, HBwt_25.out⟩
end Go.Proofs.YtkinlkmmelkdnaaDoor.GsL7One

/- loop.example/g01062/spec.l7Good as a plain function, and the contract of the program's: where the plain one has an answer, the program has it. Conditions: slices read as lists. -/
namespace Go.Proofs.YtkinlkmmelkdnaaDoor.GsL7Good
set_option linter.unusedVariables false
set_option linter.unusedSimpArgs false
open Go.RowKit
open Go.Proofs.YtkinlkmmelkdnaaDoor.Rowed Go.Proofs.YtkinlkmmelkdnaaDoor.Turn Go.Proofs.YtkinlkmmelkdnaaDoor.Aid Go.Proofs.YtkinlkmmelkdnaaDoor.GoP Go.Proofs.YtkinlkmmelkdnaaDoor.GoM

def l0 (list : (List Go.Proofs.YtkinlkmmelkdnaaDoor.PShade.Shade)) (k0 : Nat) (s : Unit) (nx0 bk0 : Unit → Option (Bool)) : Option (Bool) :=
  
  Option.bind (idx list (k0 : Int)) fun (yt_8 : Go.Proofs.YtkinlkmmelkdnaaDoor.PShade.Shade) =>
  unShade yt_8 fun (t_8_name : ByteArray) (t_8_hue : Int) (t_8_width : Int) (t_8_dark : Int) (t_8_light : Int) =>
  Option.bind (Go.Proofs.YtkinlkmmelkdnaaDoor.GsL7One.P (Go.Proofs.YtkinlkmmelkdnaaDoor.PShade.Shade.mk t_8_name t_8_hue t_8_width t_8_dark t_8_light)) fun (t_10 : Bool) =>
  letK (!t_10) fun (t_11 : Bool) =>
  joinK (fun (t_29 : Bool) =>
  iteK t_29
  (some false)
  (appK nx0 ())) fun jt_29 => iteK t_11 (appK jt_29 true) (letK (decide (0 < (k0 : Int))) fun (t_14 : Bool) =>
  joinK (fun (t_28 : Bool) =>
  appK jt_29 t_28) fun jt_28 => iteK t_14 (letK (IntKind.i64.wrap ((k0 : Int) - 1)) fun (t_18 : Int) =>
  Option.bind (idx list t_18) fun (yt_19 : Go.Proofs.YtkinlkmmelkdnaaDoor.PShade.Shade) =>
  unShade yt_19 fun (t_19_name : ByteArray) (t_19_hue : Int) (t_19_width : Int) (t_19_dark : Int) (t_19_light : Int) =>
  Option.bind (idx list (k0 : Int)) fun (yt_24 : Go.Proofs.YtkinlkmmelkdnaaDoor.PShade.Shade) =>
  unShade yt_24 fun (t_24_name : ByteArray) (t_24_hue : Int) (t_24_width : Int) (t_24_dark : Int) (t_24_light : Int) =>
  letK (!(Op.bytesLess t_19_name.toList t_24_name.toList)) fun (t_27 : Bool) =>
  appK jt_28 t_27) (appK jt_28 false))

def e0 (list : (List Go.Proofs.YtkinlkmmelkdnaaDoor.PShade.Shade)) (s : Unit) : Option (Bool) :=
  
  letK (decide ((list.length : Int) ≤ 12)) fun (t_36 : Bool) =>
  some t_36

def P (list : (List Go.Proofs.YtkinlkmmelkdnaaDoor.PShade.Shade)) : Option (Bool) :=
  cntK (l0 list) (list.length) 0 () (e0 list)

set_option maxRecDepth 100000 in
set_option maxHeartbeats 2000000 in
theorem C (list : (List Go.Proofs.YtkinlkmmelkdnaaDoor.PShade.Shade)) (A0 : Option Addr) (c0 : Nat)  (w : World) (M0 : Hid (Cells w 5 A0 list.length (Go.Proofs.YtkinlkmmelkdnaaDoor.PShade.flat list))) (N0 : Hid (list.length ≤ 9223372036854775807))  {r : Bool} (H : Hid (P list = some r)) :
    Calls Tryd.prog 85 #[.slice A0 list.length c0] w (Gives (.bool r) w) := by
  have HB := Lib.hid (Below.refl w.heap.size w)
  unfold P at H
  have N0o := N0.out
  go_enter Tryd.func85, Tryd.ntmps85
  go_wp2_with fail
  go_loopg [3] (list.length) (fun m_ v3_ wr => ∃ (k0 : Nat) , k0 + m_ = list.length ∧ v3_ = .int .i64 (k0 : Int) ∧ Hid (cntK (l0 list) m_ k0 () (e0 list) = some r) ∧ Hid (Below w.heap.size w wr))
  case atStart => exact ⟨0, by omega, rfl, H, HB⟩
  case round =>
    obtain ⟨k0, hkm0, rfl, H, HBwr0⟩ := hrel
    rename World => wr0
    cases gk with
    | zero =>
      obtain rfl : k0 = list.length := by omega
      have hc0 : decide (((list.length : Nat) : Int) < ((list.length : Nat) : Int)) = false := by simp
      replace H := cnt_zero H
      unfold e0 at H
      replace H := let_hid H
      obtain ⟨t_36, ht_36, H⟩ := H
      obtain rfl := ret_hid H
      go_wp2_with fail
      go_ret
      exact ⟨rfl, HBwr0.out⟩
    | succ m0 =>
      have hlt0 : k0 < list.length := by omega
      have hc0 : decide ((k0 : Int) < ((list.length : Nat) : Int)) = true := by simp; omega
      replace H := cnt_succ H
      unfold l0 at H
      go_wp2_with fail
      replace H := idx_hid H
      obtain ⟨nt_8, yt_8, et_8, lt_8, gt_8, H⟩ := H
      obtain rfl : k0 = nt_8 := by omega
      clear et_8
      obtain ⟨t_8_name, t_8_hue, t_8_width, t_8_dark, t_8_light⟩ := yt_8
      replace H := unShade_hid H
      obtain ⟨ab_t_8, ao_t_8, zt_8, At_8, z_t_8, ct_8_0, ct_8_1, ct_8_2, ct_8_3, ct_8_4⟩ := Go.Proofs.YtkinlkmmelkdnaaDoor.OShade.at_ M0.out lt_8
      obtain rfl := Option.some.inj (gt_8.out.symm.trans z_t_8)
      subst At_8
      have ltt_8 := cell_lt ct_8_0
      replace ct_8_0 := cell_below HBwr0.out ct_8_0
      replace ct_8_1 := cell_below HBwr0.out ct_8_1
      replace ct_8_2 := cell_below HBwr0.out ct_8_2
      replace ct_8_3 := cell_below HBwr0.out ct_8_3
      replace ct_8_4 := cell_below HBwr0.out ct_8_4
      clear z_t_8
      have b0t_8 : (0 : Int) ≤ (k0 : Int) := by omega
      have b1t_8 : (k0 : Int) < ((list.length : Nat) : Int) := by omega
      have b2t_8 : ((k0 : Int)).toNat = k0 := by omega
      have Hct_8_0 := Lib.hid ct_8_0
      replace ct_8_0 := cell_regrown ct_8_0
      have Hct_8_1 := Lib.hid ct_8_1
      replace ct_8_1 := cell_regrown ct_8_1
      have Hct_8_2 := Lib.hid ct_8_2
      replace ct_8_2 := cell_regrown ct_8_2
      have Hct_8_3 := Lib.hid ct_8_3
      replace ct_8_3 := cell_regrown ct_8_3
      have Hct_8_4 := Lib.hid ct_8_4
      replace ct_8_4 := cell_regrown ct_8_4
      replace H := bind_hid H
      obtain ⟨t_10, qt_10, H⟩ := H
      have nt_10 : ∀ d os, Calls Tryd.prog 92 #[.agg #[.string t_8_name, .int .i64 t_8_hue, .int .i64 t_8_width, .int .i64 t_8_dark, .int .i64 t_8_light]] (Go.Sort.grow (redrawn wr0 d) os) fun e w'' => e = .returned (.bool t_10) ∧ ∃ p : Regrown, w'' = Go.Sort.grow (redrawn wr0 p.d) p.os := fun d os => Calls.regrown_of (Go.Proofs.YtkinlkmmelkdnaaDoor.GsL7One.C ((Go.Proofs.YtkinlkmmelkdnaaDoor.PShade.Shade.mk t_8_name t_8_hue t_8_width t_8_dark t_8_light))  _    qt_10)
      cases t_10 with
      | false =>
        replace H := let_hid H
        obtain ⟨t_11, ht_11, H⟩ := H
        obtain rfl : t_11 = true := ht_11.symm
        replace H := join_hid H
        replace H := ite_t H
        replace H := app_hid H
        refine wp_region_quiet_below (by kernel_rfl) (by kernel_rfl) ?_
        repeat (go_big_quiet_step (first | (go_at_call 92; exact nt_10 _ _)))
        refine wpQuiet_nil ?_
        intro Y4 hY4
        replace hY4 := below_class hY4
        clear nt_10
        replace ct_8_0 := Hct_8_0.out
        clear Hct_8_0
        replace ct_8_1 := Hct_8_1.out
        clear Hct_8_1
        replace ct_8_2 := Hct_8_2.out
        clear Hct_8_2
        replace ct_8_3 := Hct_8_3.out
        clear Hct_8_3
        replace ct_8_4 := Hct_8_4.out
        clear Hct_8_4
        have HBY4 := Lib.hid (Below.step HBwr0.out hY4)
        replace ct_8_0 := cell_below hY4 ct_8_0
        replace ct_8_1 := cell_below hY4 ct_8_1
        replace ct_8_2 := cell_below hY4 ct_8_2
        replace ct_8_3 := cell_below hY4 ct_8_3
        replace ct_8_4 := cell_below hY4 ct_8_4
        clear hY4
        replace H := ite_t H
        obtain rfl := ret_hid H
        go_wp2_with fail
        go_ret
        exact ⟨rfl, HBY4.out⟩
      | true =>
        replace H := let_hid H
        obtain ⟨t_11, ht_11, H⟩ := H
        obtain rfl : t_11 = false := ht_11.symm
        replace H := join_hid H
        replace H := ite_f H
        replace H := let_hid H
        obtain ⟨t_14, ht_14, H⟩ := H
        replace H := join_hid H
        cases t_14 with
        | false =>
          have nht_14 : ¬ (0 < k0) := by have := of_decide_eq_false ht_14; omega
          replace H := ite_f H
          replace H := app_hid H
          replace H := app_hid H
          refine wp_region_quiet_below (by kernel_rfl) (by kernel_rfl) ?_
          repeat (go_big_quiet_step (first | (go_at_call 92; exact nt_10 _ _)))
          refine wpQuiet_nil ?_
          intro Y4 hY4
          replace hY4 := below_class hY4
          clear nt_10
          replace ct_8_0 := Hct_8_0.out
          clear Hct_8_0
          replace ct_8_1 := Hct_8_1.out
          clear Hct_8_1
          replace ct_8_2 := Hct_8_2.out
          clear Hct_8_2
          replace ct_8_3 := Hct_8_3.out
          clear Hct_8_3
          replace ct_8_4 := Hct_8_4.out
          clear Hct_8_4
          have HBY4 := Lib.hid (Below.step HBwr0.out hY4)
          replace ct_8_0 := cell_below hY4 ct_8_0
          replace ct_8_1 := cell_below hY4 ct_8_1
          replace ct_8_2 := cell_below hY4 ct_8_2
          replace ct_8_3 := cell_below hY4 ct_8_3
          replace ct_8_4 := cell_below hY4 ct_8_4
          clear hY4
          replace H := ite_f H
          replace H := app_hid H
          go_wp2_with fail
          go_roundg m0
          case measure => omega
          case rel => exact ⟨k0 + 1, by omega, by go_num, H, HBY4⟩
        | true =>
          have nht_14 : 0 < k0 := by have := of_decide_eq_true ht_14; omega
          replace H := ite_t H
          replace H := let_hid H
          obtain ⟨t_18, ht_18, H⟩ := H
          replace H := idx_hid H
          obtain ⟨nt_19, yt_19, et_19, lt_19, gt_19, H⟩ := H
          subst et_19
          obtain ⟨t_19_name, t_19_hue, t_19_width, t_19_dark, t_19_light⟩ := yt_19
          replace H := unShade_hid H
          obtain ⟨ab_t_19, ao_t_19, zt_19, At_19, z_t_19, ct_19_0, ct_19_1, ct_19_2, ct_19_3, ct_19_4⟩ := Go.Proofs.YtkinlkmmelkdnaaDoor.OShade.at_ M0.out lt_19
          obtain rfl := Option.some.inj (gt_19.out.symm.trans z_t_19)
          simp only [Option.some.injEq, Addr.mk.injEq] at At_19
          obtain ⟨rfl, rfl, _⟩ := At_19
          have ltt_19 := cell_lt ct_19_0
          replace ct_19_0 := cell_below HBwr0.out ct_19_0
          replace ct_19_1 := cell_below HBwr0.out ct_19_1
          replace ct_19_2 := cell_below HBwr0.out ct_19_2
          replace ct_19_3 := cell_below HBwr0.out ct_19_3
          replace ct_19_4 := cell_below HBwr0.out ct_19_4
          clear z_t_19
          have b0t_19 : (0 : Int) ≤ (nt_19 : Int) := by omega
          have b1t_19 : (nt_19 : Int) < ((list.length : Nat) : Int) := by omega
          have b2t_19 : ((nt_19 : Int)).toNat = nt_19 := by omega
          have Hct_19_0 := Lib.hid ct_19_0
          replace ct_19_0 := cell_regrown ct_19_0
          have Hct_19_1 := Lib.hid ct_19_1
          replace ct_19_1 := cell_regrown ct_19_1
          have Hct_19_2 := Lib.hid ct_19_2
          replace ct_19_2 := cell_regrown ct_19_2
          have Hct_19_3 := Lib.hid ct_19_3
          replace ct_19_3 := cell_regrown ct_19_3
          have Hct_19_4 := Lib.hid ct_19_4
          replace ct_19_4 := cell_regrown ct_19_4
          replace H := idx_hid H
          obtain ⟨nt_24, yt_24, et_24, lt_24, gt_24, H⟩ := H
          obtain rfl : k0 = nt_24 := by omega
          clear et_24
          obtain rfl := Option.some.inj (gt_8.out.symm.trans gt_24.out)
          clear gt_24 lt_24
          replace H := unShade_hid H
          replace H := let_hid H
          obtain ⟨t_27, ht_27, H⟩ := H
          replace H := app_hid H
          replace H := app_hid H
          refine wp_region_quiet_below (by kernel_rfl) (by kernel_rfl) ?_
          repeat (go_big_quiet_step (first | (go_at_call 92; exact nt_10 _ _)))
          refine wpQuiet_nil ?_
          intro Y4 hY4
          replace hY4 := below_class hY4
          clear nt_10
          replace ct_8_0 := Hct_8_0.out
          clear Hct_8_0
          replace ct_8_1 := Hct_8_1.out
          clear Hct_8_1
          replace ct_8_2 := Hct_8_2.out
          clear Hct_8_2
          replace ct_8_3 := Hct_8_3.out
          clear Hct_8_3
          replace ct_8_4 := Hct_8_4.out
          clear Hct_8_4
          replace ct_19_0 := Hct_19_0.out
          clear Hct_19_0
          replace ct_19_1 := Hct_19_1.out
          clear Hct_19_1
          replace ct_19_2 := Hct_19_2.out
          clear Hct_19_2
          replace ct_19_3 := Hct_19_3.out
          clear Hct_19_3
          replace ct_19_4 := Hct_19_4.out
          clear Hct_19_4
          have HBY4 := Lib.hid (Below.step HBwr0.out hY4)
          replace ct_8_0 := cell_below hY4 ct_8_0
          replace ct_8_1 := cell_below hY4 ct_8_1
          replace ct_8_2 := cell_below hY4 ct_8_2
          replace ct_8_3 := cell_below hY4 ct_8_3
          replace ct_8_4 := cell_below hY4 ct_8_4
          replace ct_19_0 := cell_below hY4 ct_19_0
          replace ct_19_1 := cell_below hY4 ct_19_1
          replace ct_19_2 := cell_below hY4 ct_19_2
          replace ct_19_3 := cell_below hY4 ct_19_3
          replace ct_19_4 := cell_below hY4 ct_19_4
          clear hY4
          cases t_27 with
          | false =>
            replace H := ite_f H
            replace H := app_hid H
            go_wp2_with fail
            go_roundg m0
            case measure => omega
            case rel => exact ⟨k0 + 1, by omega, by go_num, H, HBY4⟩
          | true =>
            replace H := ite_t H
            obtain rfl := ret_hid H
            go_wp2_with fail
            go_ret
            exact ⟨rfl, HBY4.out⟩
end Go.Proofs.YtkinlkmmelkdnaaDoor.GsL7Good

/- loop.example/g01062/spec.l7Takes as a plain function, and the contract of the program's: where the plain one has an answer, the program has it. Conditions: slices read as lists. -/
namespace Go.Proofs.YtkinlkmmelkdnaaDoor.GsL7Takes
set_option linter.unusedVariables false
set_option linter.unusedSimpArgs false
open Go.RowKit
open Go.Proofs.YtkinlkmmelkdnaaDoor.Rowed Go.Proofs.YtkinlkmmelkdnaaDoor.Turn Go.Proofs.YtkinlkmmelkdnaaDoor.Aid Go.Proofs.YtkinlkmmelkdnaaDoor.GoP Go.Proofs.YtkinlkmmelkdnaaDoor.GoM

def P (x : Go.Proofs.YtkinlkmmelkdnaaDoor.PShade.Shade) (hue : Int) (light : Int) : Option (Bool) :=
  unShade x fun (x_name : ByteArray) (x_hue : Int) (x_width : Int) (x_dark : Int) (x_light : Int) =>
  Option.bind (Go.Proofs.YtkinlkmmelkdnaaDoor.GsL7Far.P x_hue hue) fun (t_5 : Int) =>
  letK (decide (t_5 ≤ x_width)) fun (t_8 : Bool) =>
  joinK (fun (t_16 : Bool) =>
  some t_16) fun jt_16 => iteK t_8 (Option.bind (Go.Proofs.YtkinlkmmelkdnaaDoor.GsL1In.P light x_dark x_light) fun (t_15 : Bool) =>
  appK jt_16 t_15) (appK jt_16 false)

set_option maxRecDepth 100000 in
set_option maxHeartbeats 2000000 in
theorem C (x : Go.Proofs.YtkinlkmmelkdnaaDoor.PShade.Shade) (hue : Int) (light : Int)   (w : World)   {r : Bool} (H : Hid (P x hue light = some r)) :
    Calls Tryd.prog 87 #[x.val, .int .i64 hue, .int .i64 light] w (Gives (.bool r) w) := by
  have HB := Lib.hid (Below.refl w.heap.size w)
  unfold P at H
  obtain ⟨x_name, x_hue, x_width, x_dark, x_light⟩ := x
  replace H := unShade_hid H
  unfold Go.Proofs.YtkinlkmmelkdnaaDoor.PShade.Shade.val
  go_enter Tryd.func87, Tryd.ntmps87
  obtain ⟨w_x_0, hw_x_0⟩ : ∃ x, w.alloc (.cells #[.string x_name, .int .i64 x_hue, .int .i64 x_width, .int .i64 x_dark, .int .i64 x_light] 54) = x := ⟨_, rfl⟩
  have bw_x_0 : Below w.heap.size w w_x_0 := by rw [← hw_x_0]; exact (Below.refl _ _).alloc (Nat.le_refl _) _
  have HBw_x_0 := Lib.hid (Below.step HB.out bw_x_0)
  clear bw_x_0
  have kx_0_0 : w_x_0.cell? ⟨w.heap.size, 0, none⟩ = some (.string x_name) := by rw [← hw_x_0]; exact box_new _ _ _ 0 _ rfl
  have kx_0_1 : w_x_0.cell? ⟨w.heap.size, 1, none⟩ = some (.int .i64 x_hue) := by rw [← hw_x_0]; exact box_new _ _ _ 1 _ rfl
  have kx_0_2 : w_x_0.cell? ⟨w.heap.size, 2, none⟩ = some (.int .i64 x_width) := by rw [← hw_x_0]; exact box_new _ _ _ 2 _ rfl
  have kx_0_3 : w_x_0.cell? ⟨w.heap.size, 3, none⟩ = some (.int .i64 x_dark) := by rw [← hw_x_0]; exact box_new _ _ _ 3 _ rfl
  have kx_0_4 : w_x_0.cell? ⟨w.heap.size, 4, none⟩ = some (.int .i64 x_light) := by rw [← hw_x_0]; exact box_new _ _ _ 4 _ rfl
  go_wp2_with fail
  have Hkx_0_0 := Lib.hid kx_0_0
  replace kx_0_0 := cell_regrown kx_0_0
  have Hkx_0_1 := Lib.hid kx_0_1
  replace kx_0_1 := cell_regrown kx_0_1
  have Hkx_0_2 := Lib.hid kx_0_2
  replace kx_0_2 := cell_regrown kx_0_2
  have Hkx_0_3 := Lib.hid kx_0_3
  replace kx_0_3 := cell_regrown kx_0_3
  have Hkx_0_4 := Lib.hid kx_0_4
  replace kx_0_4 := cell_regrown kx_0_4
  replace H := bind_hid H
  obtain ⟨t_5, qt_5, H⟩ := H
  have nt_5 : ∀ d os, Calls Tryd.prog 67 #[.int .i64 x_hue, .int .i64 hue] (Go.Sort.grow (redrawn w_x_0 d) os) fun e w'' => e = .returned (.int .i64 t_5) ∧ ∃ p : Regrown, w'' = Go.Sort.grow (redrawn w_x_0 p.d) p.os := fun d os => Calls.regrown_of (Go.Proofs.YtkinlkmmelkdnaaDoor.GsL7Far.C (x_hue) (hue)  _    qt_5)
  replace H := let_hid H
  obtain ⟨t_8, ht_8, H⟩ := H
  replace H := join_hid H
  cases t_8 with
  | false =>
    replace H := ite_f H
    replace H := app_hid H
    refine wp_region_quiet_below (by kernel_rfl) (by kernel_rfl) ?_
    repeat (go_big_quiet_step (first | (go_at_call 67; exact nt_5 _ _)))
    refine wpQuiet_nil ?_
    intro Y1 hY1
    replace hY1 := below_class hY1
    clear nt_5
    replace kx_0_0 := Hkx_0_0.out
    clear Hkx_0_0
    replace kx_0_1 := Hkx_0_1.out
    clear Hkx_0_1
    replace kx_0_2 := Hkx_0_2.out
    clear Hkx_0_2
    replace kx_0_3 := Hkx_0_3.out
    clear Hkx_0_3
    replace kx_0_4 := Hkx_0_4.out
    clear Hkx_0_4
    have HBY1 := Lib.hid (Below.step HBw_x_0.out hY1)
    replace kx_0_0 := cell_below hY1 kx_0_0
    replace kx_0_1 := cell_below hY1 kx_0_1
    replace kx_0_2 := cell_below hY1 kx_0_2
    replace kx_0_3 := cell_below hY1 kx_0_3
    replace kx_0_4 := cell_below hY1 kx_0_4
    clear hY1
    obtain rfl := ret_hid H
    go_wp2_with fail
    go_ret
    exact ⟨rfl, HBY1.out⟩
  | true =>
    replace H := ite_t H
    replace H := bind_hid H
    obtain ⟨t_15, qt_15, H⟩ := H
    have nt_15 : ∀ d os, Calls Tryd.prog 86 #[.int .i64 light, .int .i64 x_dark, .int .i64 x_light] (Go.Sort.grow (redrawn w_x_0 d) os) fun e w'' => e = .returned (.bool t_15) ∧ ∃ p : Regrown, w'' = Go.Sort.grow (redrawn w_x_0 p.d) p.os := fun d os => Calls.regrown_of (Go.Proofs.YtkinlkmmelkdnaaDoor.GsL1In.C (light) (x_dark) (x_light)  _    qt_15)
    replace H := app_hid H
    refine wp_region_quiet_below (by kernel_rfl) (by kernel_rfl) ?_
    repeat (go_big_quiet_step (first | (go_at_call 67; exact nt_5 _ _) | (go_at_call 86; exact nt_15 _ _)))
    refine wpQuiet_nil ?_
    intro Y1 hY1
    replace hY1 := below_class hY1
    clear nt_5 nt_15
    replace kx_0_0 := Hkx_0_0.out
    clear Hkx_0_0
    replace kx_0_1 := Hkx_0_1.out
    clear Hkx_0_1
    replace kx_0_2 := Hkx_0_2.out
    clear Hkx_0_2
    replace kx_0_3 := Hkx_0_3.out
    clear Hkx_0_3
    replace kx_0_4 := Hkx_0_4.out
    clear Hkx_0_4
    have HBY1 := Lib.hid (Below.step HBw_x_0.out hY1)
    replace kx_0_0 := cell_below hY1 kx_0_0
    replace kx_0_1 := cell_below hY1 kx_0_1
    replace kx_0_2 := cell_below hY1 kx_0_2
    replace kx_0_3 := cell_below hY1 kx_0_3
    replace kx_0_4 := cell_below hY1 kx_0_4
    clear hY1
    obtain rfl := ret_hid H
    go_wp2_with fail
    go_ret
    exact ⟨rfl, HBY1.out⟩
end Go.Proofs.YtkinlkmmelkdnaaDoor.GsL7Takes

/- loop.example/g01062/spec.l7Count as a plain function, and the contract of the program's: where the plain one has an answer, the program has it. Conditions: slices read as lists. -/
namespace Go.Proofs.YtkinlkmmelkdnaaDoor.GsL7Count
set_option linter.unusedVariables false
set_option linter.unusedSimpArgs false
open Go.RowKit
open Go.Proofs.YtkinlkmmelkdnaaDoor.Rowed Go.Proofs.YtkinlkmmelkdnaaDoor.Turn Go.Proofs.YtkinlkmmelkdnaaDoor.Aid Go.Proofs.YtkinlkmmelkdnaaDoor.GoP Go.Proofs.YtkinlkmmelkdnaaDoor.GoM

def l0 (list : (List Go.Proofs.YtkinlkmmelkdnaaDoor.PShade.Shade)) (hue : Int) (light : Int) (k0 : Nat) (s : Int) (nx0 bk0 : Int → Option (Int)) : Option (Int) :=
  letK s fun n_7l0 =>
  Option.bind (idx list (k0 : Int)) fun (yt_9 : Go.Proofs.YtkinlkmmelkdnaaDoor.PShade.Shade) =>
  unShade yt_9 fun (t_9_name : ByteArray) (t_9_hue : Int) (t_9_width : Int) (t_9_dark : Int) (t_9_light : Int) =>
  Option.bind (Go.Proofs.YtkinlkmmelkdnaaDoor.GsL7Takes.P (Go.Proofs.YtkinlkmmelkdnaaDoor.PShade.Shade.mk t_9_name t_9_hue t_9_width t_9_dark t_9_light) hue light) fun (t_13 : Bool) =>
  iteK t_13
  (letK (IntKind.i64.wrap (n_7l0 + 1)) fun (t_15 : Int) =>
  appK nx0 (t_15))
  (appK nx0 (n_7l0))

def e0  (s : Int) : Option (Int) :=
  letK s fun n_7l0 =>
  some n_7l0

def P (list : (List Go.Proofs.YtkinlkmmelkdnaaDoor.PShade.Shade)) (hue : Int) (light : Int) : Option (Int) :=
  cntK (l0 list hue light) (list.length) 0 (0) (e0 )

set_option maxRecDepth 100000 in
set_option maxHeartbeats 2000000 in
theorem C (list : (List Go.Proofs.YtkinlkmmelkdnaaDoor.PShade.Shade)) (hue : Int) (light : Int) (A0 : Option Addr) (c0 : Nat)  (w : World) (M0 : Hid (Cells w 5 A0 list.length (Go.Proofs.YtkinlkmmelkdnaaDoor.PShade.flat list))) (N0 : Hid (list.length ≤ 9223372036854775807))  {r : Int} (H : Hid (P list hue light = some r)) :
    Calls Tryd.prog 88 #[.slice A0 list.length c0, .int .i64 hue, .int .i64 light] w (Gives (.int .i64 r) w) := by
  have HB := Lib.hid (Below.refl w.heap.size w)
  unfold P at H
  have N0o := N0.out
  go_enter Tryd.func88, Tryd.ntmps88
  go_wp2_with fail
  go_loopg [8, 7] (list.length) (fun m_ v8_ v7_ wr => ∃ (k0 : Nat) (n_7l0 : Int), k0 + m_ = list.length ∧ v8_ = .int .i64 (k0 : Int) ∧ v7_ = .int .i64 n_7l0 ∧ Hid (cntK (l0 list hue light) m_ k0 (n_7l0) (e0 ) = some r) ∧ Hid (Below w.heap.size w wr))
  case atStart => exact ⟨0, _, by omega, rfl, rfl, H, HB⟩
  case round =>
    obtain ⟨k0, n_7l0, hkm0, rfl, rfl, H, HBwr0⟩ := hrel
    rename World => wr0
    cases gk with
    | zero =>
      obtain rfl : k0 = list.length := by omega
      have hc0 : decide (((list.length : Nat) : Int) < ((list.length : Nat) : Int)) = false := by simp
      replace H := cnt_zero H
      unfold e0 at H
      replace H := let_hid H
      obtain ⟨_, rfl, H⟩ := H
      obtain rfl := ret_hid H
      go_wp2_with fail
      go_ret
      exact ⟨rfl, HBwr0.out⟩
    | succ m0 =>
      have hlt0 : k0 < list.length := by omega
      have hc0 : decide ((k0 : Int) < ((list.length : Nat) : Int)) = true := by simp; omega
      replace H := cnt_succ H
      unfold l0 at H
      replace H := let_hid H
      obtain ⟨_, rfl, H⟩ := H
      replace H := idx_hid H
      obtain ⟨nt_9, yt_9, et_9, lt_9, gt_9, H⟩ := H
      obtain rfl : k0 = nt_9 := by omega
      clear et_9
      obtain ⟨t_9_name, t_9_hue, t_9_width, t_9_dark, t_9_light⟩ := yt_9
      replace H := unShade_hid H
      obtain ⟨ab_t_9, ao_t_9, zt_9, At_9, z_t_9, ct_9_0, ct_9_1, ct_9_2, ct_9_3, ct_9_4⟩ := Go.Proofs.YtkinlkmmelkdnaaDoor.OShade.at_ M0.out lt_9
      obtain rfl := Option.some.inj (gt_9.out.symm.trans z_t_9)
      subst At_9
      have ltt_9 := cell_lt ct_9_0
      replace ct_9_0 := cell_below HBwr0.out ct_9_0
      replace ct_9_1 := cell_below HBwr0.out ct_9_1
      replace ct_9_2 := cell_below HBwr0.out ct_9_2
      replace ct_9_3 := cell_below HBwr0.out ct_9_3
      replace ct_9_4 := cell_below HBwr0.out ct_9_4
      clear z_t_9
      have b0t_9 : (0 : Int) ≤ (k0 : Int) := by omega
      have b1t_9 : (k0 : Int) < ((list.length : Nat) : Int) := by omega
      have b2t_9 : ((k0 : Int)).toNat = k0 := by omega
      replace H := bind_hid H
      obtain ⟨t_13, qt_13, H⟩ := H
      go_wp2_with fail
      go_at_call 87
      refine (Go.Proofs.YtkinlkmmelkdnaaDoor.GsL7Takes.C ((Go.Proofs.YtkinlkmmelkdnaaDoor.PShade.Shade.mk t_9_name t_9_hue t_9_width t_9_dark t_9_light)) (hue) (light)  _    qt_13).mono ?_
      rintro e_t_13 wt_13 ⟨rfl, bt_13⟩
      have HBwt_13 := Lib.hid (Below.step HBwr0.out bt_13)
      replace ct_9_0 := cell_below bt_13 ct_9_0
      replace ct_9_1 := cell_below bt_13 ct_9_1
      replace ct_9_2 := cell_below bt_13 ct_9_2
      replace ct_9_3 := cell_below bt_13 ct_9_3
      replace ct_9_4 := cell_below bt_13 ct_9_4
      clear bt_13
      cases t_13 with
      | false =>
        replace H := ite_f H
        replace H := app_hid H
        go_wp2_with fail
        go_roundg m0
        case measure => omega
        case rel => exact ⟨k0 + 1, _, by omega, by go_num, rfl, H, HBwt_13⟩
      | true =>
        replace H := ite_t H
        replace H := let_hid H
        obtain ⟨t_15, ht_15, H⟩ := H
        replace H := app_hid H
        go_wp2_with fail
        go_roundg m0
        case measure => omega
        case rel => exact ⟨k0 + 1, _, by omega, by go_num, rfl, H, HBwt_13⟩
end Go.Proofs.YtkinlkmmelkdnaaDoor.GsL7Count

/- loop.example/g01062/spec.CertainHues as a plain function, and the contract of the program's: where the plain one has an answer, the program has it. Conditions: slices read as lists. -/
namespace Go.Proofs.YtkinlkmmelkdnaaDoor.GsCertainHues
set_option linter.unusedVariables false
set_option linter.unusedSimpArgs false
open Go.RowKit
open Go.Proofs.YtkinlkmmelkdnaaDoor.Rowed Go.Proofs.YtkinlkmmelkdnaaDoor.Turn Go.Proofs.YtkinlkmmelkdnaaDoor.Aid Go.Proofs.YtkinlkmmelkdnaaDoor.GoP Go.Proofs.YtkinlkmmelkdnaaDoor.GoM

def l0 (list : (List Go.Proofs.YtkinlkmmelkdnaaDoor.PShade.Shade)) (name : ByteArray) (k0 : Nat) (s : Int) (nx0 bk0 : Int → Option (Int × Bool)) : Option (Int × Bool) :=
  letK s fun at_8l0 =>
  Option.bind (idx list (k0 : Int)) fun (yt_10 : Go.Proofs.YtkinlkmmelkdnaaDoor.PShade.Shade) =>
  unShade yt_10 fun (t_10_name : ByteArray) (t_10_hue : Int) (t_10_width : Int) (t_10_dark : Int) (t_10_light : Int) =>
  letK (t_10_name.toList == name.toList) fun (t_14 : Bool) =>
  iteK t_14
  (appK nx0 ((k0 : Int)))
  (appK nx0 (at_8l0))

def l1 (list : (List Go.Proofs.YtkinlkmmelkdnaaDoor.PShade.Shade)) (light : Int) (at_8l0 : Int) (k1 : Nat) (s : Int) (nx1 bk1 : Int → Option (Int × Bool)) : Option (Int × Bool) :=
  letK s fun n_10l1 =>
  Option.bind (idx list at_8l0) fun (yt_40 : Go.Proofs.YtkinlkmmelkdnaaDoor.PShade.Shade) =>
  unShade yt_40 fun (t_40_name : ByteArray) (t_40_hue : Int) (t_40_width : Int) (t_40_dark : Int) (t_40_light : Int) =>
  Option.bind (Go.Proofs.YtkinlkmmelkdnaaDoor.GsL7Takes.P (Go.Proofs.YtkinlkmmelkdnaaDoor.PShade.Shade.mk t_40_name t_40_hue t_40_width t_40_dark t_40_light) (k1 : Int) light) fun (t_44 : Bool) =>
  joinK (fun (t_51 : Bool) =>
  iteK t_51
  (letK (IntKind.i64.wrap (n_10l1 + 1)) fun (t_53 : Int) =>
  appK nx1 (t_53))
  (appK nx1 (n_10l1))) fun jt_51 => iteK t_44 (Option.bind (Go.Proofs.YtkinlkmmelkdnaaDoor.GsL7Count.P list (k1 : Int) light) fun (t_49 : Int) =>
  letK (t_49 == 1) fun (t_50 : Bool) =>
  appK jt_51 t_50) (appK jt_51 false)

def e1  (s : Int) : Option (Int × Bool) :=
  letK s fun n_10l1 =>
  some (n_10l1, true)

def e0 (list : (List Go.Proofs.YtkinlkmmelkdnaaDoor.PShade.Shade)) (light : Int) (s : Int) : Option (Int × Bool) :=
  letK s fun at_8l0 =>
  Option.bind (Go.Proofs.YtkinlkmmelkdnaaDoor.GsL7Good.P list) fun (t_21 : Bool) =>
  letK (!t_21) fun (t_22 : Bool) =>
  joinK (fun (t_26 : Bool) =>
  joinK (fun (t_31 : Bool) =>
  iteK t_31
  (some (0, false))
  (cntK (l1 list light at_8l0) (360) 0 (0) (e1 ))) fun jt_31 => iteK t_26 (appK jt_31 true) (Option.bind (Go.Proofs.YtkinlkmmelkdnaaDoor.GsL1In.P light 0 100) fun (t_29 : Bool) =>
  letK (!t_29) fun (t_30 : Bool) =>
  appK jt_31 t_30)) fun jt_26 => iteK t_22 (appK jt_26 true) (letK (decide (at_8l0 < 0)) fun (t_25 : Bool) =>
  appK jt_26 t_25)

def P (list : (List Go.Proofs.YtkinlkmmelkdnaaDoor.PShade.Shade)) (name : ByteArray) (light : Int) : Option (Int × Bool) :=
  cntK (l0 list name) (list.length) 0 ((-1)) (e0 list light)

set_option maxRecDepth 100000 in
set_option maxHeartbeats 2000000 in
theorem C (list : (List Go.Proofs.YtkinlkmmelkdnaaDoor.PShade.Shade)) (name : ByteArray) (light : Int) (A0 : Option Addr) (c0 : Nat)  (w : World) (M0 : Hid (Cells w 5 A0 list.length (Go.Proofs.YtkinlkmmelkdnaaDoor.PShade.flat list))) (N0 : Hid (list.length ≤ 9223372036854775807))  {r0 : Int} {r1 : Bool} (H : Hid (P list name light = some (r0, r1))) :
    Calls Tryd.prog 33 #[.slice A0 list.length c0, .string name, .int .i64 light] w (Gives (.tuple #[.int .i64 r0, .bool r1]) w) := by
  have HB := Lib.hid (Below.refl w.heap.size w)
  unfold P at H
  have N0o := N0.out
  go_enter Tryd.func33, Tryd.ntmps33
  go_wp2_with fail
  go_loopg [9, 8] (list.length) (fun m_ v9_ v8_ wr => ∃ (k0 : Nat) (at_8l0 : Int), k0 + m_ = list.length ∧ v9_ = .int .i64 (k0 : Int) ∧ v8_ = .int .i64 at_8l0 ∧ Hid (cntK (l0 list name) m_ k0 (at_8l0) (e0 list light) = some (r0, r1)) ∧ Hid (Below w.heap.size w wr))
  case atStart => exact ⟨0, _, by omega, rfl, rfl, H, HB⟩
  case round =>
    obtain ⟨k0, at_8l0, hkm0, rfl, rfl, H, HBwr0⟩ := hrel
    rename World => wr0
    cases gk with
    | zero =>
      obtain rfl : k0 = list.length := by omega
      have hc0 : decide (((list.length : Nat) : Int) < ((list.length : Nat) : Int)) = false := by simp
      replace H := cnt_zero H
      unfold e0 at H
      replace H := let_hid H
      obtain ⟨_, rfl, H⟩ := H
      replace H := bind_hid H
      obtain ⟨t_21, qt_21, H⟩ := H
      go_wp2_with fail
      go_at_call 85
      refine (Go.Proofs.YtkinlkmmelkdnaaDoor.GsL7Good.C (list) A0 c0 _   (Lib.hid (Cells.below M0.out HBwr0.out)) N0 qt_21).mono ?_
      rintro e_t_21 wt_21 ⟨rfl, bt_21⟩
      have HBwt_21 := Lib.hid (Below.step HBwr0.out bt_21)
      clear bt_21
      cases t_21 with
      | false =>
        replace H := let_hid H
        obtain ⟨t_22, ht_22, H⟩ := H
        obtain rfl : t_22 = true := ht_22.symm
        replace H := join_hid H
        replace H := ite_t H
        replace H := app_hid H
        replace H := join_hid H
        replace H := ite_t H
        replace H := app_hid H
        replace H := ite_t H
        cases ret_hid H
        go_wp2_with fail
        go_ret2
        exact ⟨rfl, HBwt_21.out⟩
      | true =>
        replace H := let_hid H
        obtain ⟨t_22, ht_22, H⟩ := H
        obtain rfl : t_22 = false := ht_22.symm
        replace H := join_hid H
        replace H := ite_f H
        replace H := let_hid H
        obtain ⟨t_25, ht_25, H⟩ := H
        replace H := app_hid H
        replace H := join_hid H
        cases t_25 with
        | false =>
          replace H := ite_f H
          replace H := bind_hid H
          obtain ⟨t_29, qt_29, H⟩ := H
          go_wp2_with fail
          go_at_call 86
          refine (Go.Proofs.YtkinlkmmelkdnaaDoor.GsL1In.C (light) (0) (100)  _    qt_29).mono ?_
          rintro e_t_29 wt_29 ⟨rfl, bt_29⟩
          have HBwt_29 := Lib.hid (Below.step HBwt_21.out bt_29)
          clear bt_29
          cases t_29 with
          | false =>
            replace H := let_hid H
            obtain ⟨t_30, ht_30, H⟩ := H
            obtain rfl : t_30 = true := ht_30.symm
            replace H := app_hid H
            replace H := ite_t H
            cases ret_hid H
            go_wp2_with fail
            go_ret2
            exact ⟨rfl, HBwt_29.out⟩
          | true =>
            replace H := let_hid H
            obtain ⟨t_30, ht_30, H⟩ := H
            obtain rfl : t_30 = false := ht_30.symm
            replace H := app_hid H
            replace H := ite_f H
            go_wp2_with fail
            go_loopg [11, 10] (360) (fun m_ v11_ v10_ wr => ∃ (k1 : Nat) (n_10l1 : Int), k1 + m_ = 360 ∧ v11_ = .int .i64 (k1 : Int) ∧ v10_ = .int .i64 n_10l1 ∧ Hid (cntK (l1 list light at_8l0) m_ k1 (n_10l1) (e1 ) = some (r0, r1)) ∧ Hid (Below w.heap.size w wr))
            case atStart => exact ⟨0, _, by omega, rfl, rfl, H, HBwt_29⟩
            case round =>
              obtain ⟨k1, n_10l1, hkm1, rfl, rfl, H, HBwr1⟩ := hrel
              rename World => wr1
              cases gk with
              | zero =>
                obtain rfl : k1 = 360 := by omega
                have hc1 : decide (((360 : Nat) : Int) < ((360 : Nat) : Int)) = false := by simp
                replace H := cnt_zero H
                unfold e1 at H
                replace H := let_hid H
                obtain ⟨_, rfl, H⟩ := H
                cases ret_hid H
                go_wp2_with fail
                go_ret2
                exact ⟨rfl, HBwr1.out⟩
              | succ m1 =>
                have hlt1 : k1 < 360 := by omega
                have hc1 : decide ((k1 : Int) < ((360 : Nat) : Int)) = true := by simp; omega
                replace H := cnt_succ H
                unfold l1 at H
                replace H := let_hid H
                obtain ⟨_, rfl, H⟩ := H
                replace H := idx_hid H
                obtain ⟨nt_40, yt_40, et_40, lt_40, gt_40, H⟩ := H
                subst et_40
                have nc_281 : ¬ (nt_40 < 0) := by have := of_decide_eq_false ht_25; omega
                obtain ⟨t_40_name, t_40_hue, t_40_width, t_40_dark, t_40_light⟩ := yt_40
                replace H := unShade_hid H
                obtain ⟨ab_t_40, ao_t_40, zt_40, At_40, z_t_40, ct_40_0, ct_40_1, ct_40_2, ct_40_3, ct_40_4⟩ := Go.Proofs.YtkinlkmmelkdnaaDoor.OShade.at_ M0.out lt_40
                obtain rfl := Option.some.inj (gt_40.out.symm.trans z_t_40)
                subst At_40
                have ltt_40 := cell_lt ct_40_0
                replace ct_40_0 := cell_below HBwr1.out ct_40_0
                replace ct_40_1 := cell_below HBwr1.out ct_40_1
                replace ct_40_2 := cell_below HBwr1.out ct_40_2
                replace ct_40_3 := cell_below HBwr1.out ct_40_3
                replace ct_40_4 := cell_below HBwr1.out ct_40_4
                clear z_t_40
                have b0t_40 : (0 : Int) ≤ (nt_40 : Int) := by omega
                have b1t_40 : (nt_40 : Int) < ((list.length : Nat) : Int) := by omega
                have b2t_40 : ((nt_40 : Int)).toNat = nt_40 := by omega
                replace H := bind_hid H
                obtain ⟨t_44, qt_44, H⟩ := H
                go_wp2_with fail
                go_at_call 87
                refine (Go.Proofs.YtkinlkmmelkdnaaDoor.GsL7Takes.C ((Go.Proofs.YtkinlkmmelkdnaaDoor.PShade.Shade.mk t_40_name t_40_hue t_40_width t_40_dark t_40_light)) ((k1 : Int)) (light)  _    qt_44).mono ?_
                rintro e_t_44 wt_44 ⟨rfl, bt_44⟩
                have HBwt_44 := Lib.hid (Below.step HBwr1.out bt_44)
                replace ct_40_0 := cell_below bt_44 ct_40_0
                replace ct_40_1 := cell_below bt_44 ct_40_1
                replace ct_40_2 := cell_below bt_44 ct_40_2
                replace ct_40_3 := cell_below bt_44 ct_40_3
                replace ct_40_4 := cell_below bt_44 ct_40_4
                clear bt_44
                replace H := join_hid H
                cases t_44 with
                | false =>
                  replace H := ite_f H
                  replace H := app_hid H
                  replace H := ite_f H
                  replace H := app_hid H
                  go_wp2_with fail
                  go_roundg m1
                  case measure => omega
                  case rel => exact ⟨k1 + 1, _, by omega, by go_num, rfl, H, HBwt_44⟩
                | true =>
                  replace H := ite_t H
                  replace H := bind_hid H
                  obtain ⟨t_49, qt_49, H⟩ := H
                  go_wp2_with fail
                  go_at_call 88
                  refine (Go.Proofs.YtkinlkmmelkdnaaDoor.GsL7Count.C (list) ((k1 : Int)) (light) (some ⟨ab_t_40, ao_t_40, none⟩) c0 _   (Lib.hid (Cells.below M0.out HBwt_44.out)) N0 qt_49).mono ?_
                  rintro e_t_49 wt_49 ⟨rfl, bt_49⟩
                  have HBwt_49 := Lib.hid (Below.step HBwt_44.out bt_49)
                  replace ct_40_0 := cell_below bt_49 ct_40_0
                  replace ct_40_1 := cell_below bt_49 ct_40_1
                  replace ct_40_2 := cell_below bt_49 ct_40_2
                  replace ct_40_3 := cell_below bt_49 ct_40_3
                  replace ct_40_4 := cell_below bt_49 ct_40_4
                  clear bt_49
                  replace H := let_hid H
                  obtain ⟨t_50, ht_50, H⟩ := H
                  replace H := app_hid H
                  cases t_50 with
                  | false =>
                    replace H := ite_f H
                    replace H := app_hid H
                    go_wp2_with fail
                    go_roundg m1
                    case measure => omega
                    case rel => exact ⟨k1 + 1, _, by omega, by go_num, rfl, H, HBwt_49⟩
                  | true =>
                    replace H := ite_t H
                    replace H := let_hid H
                    obtain ⟨t_53, ht_53, H⟩ := H
                    replace H := app_hid H
                    go_wp2_with fail
                    go_roundg m1
                    case measure => omega
                    case rel => exact ⟨k1 + 1, _, by omega, by go_num, rfl, H, HBwt_49⟩
        | true =>
          replace H := ite_t H
          replace H := app_hid H
          replace H := ite_t H
          cases ret_hid H
          go_wp2_with fail
          go_ret2
          exact ⟨rfl, HBwt_21.out⟩
    | succ m0 =>
      have hlt0 : k0 < list.length := by omega
      have hc0 : decide ((k0 : Int) < ((list.length : Nat) : Int)) = true := by simp; omega
      replace H := cnt_succ H
      unfold l0 at H
      replace H := let_hid H
      obtain ⟨_, rfl, H⟩ := H
      replace H := idx_hid H
      obtain ⟨nt_10, yt_10, et_10, lt_10, gt_10, H⟩ := H
      obtain rfl : k0 = nt_10 := by omega
      clear et_10
      obtain ⟨t_10_name, t_10_hue, t_10_width, t_10_dark, t_10_light⟩ := yt_10
      replace H := unShade_hid H
      obtain ⟨ab_t_10, ao_t_10, zt_10, At_10, z_t_10, ct_10_0, ct_10_1, ct_10_2, ct_10_3, ct_10_4⟩ := Go.Proofs.YtkinlkmmelkdnaaDoor.OShade.at_ M0.out lt_10
      obtain rfl := Option.some.inj (gt_10.out.symm.trans z_t_10)
      subst At_10
      have ltt_10 := cell_lt ct_10_0
      replace ct_10_0 := cell_below HBwr0.out ct_10_0
      replace ct_10_1 := cell_below HBwr0.out ct_10_1
      replace ct_10_2 := cell_below HBwr0.out ct_10_2
      replace ct_10_3 := cell_below HBwr0.out ct_10_3
      replace ct_10_4 := cell_below HBwr0.out ct_10_4
      clear z_t_10
      have b0t_10 : (0 : Int) ≤ (k0 : Int) := by omega
      have b1t_10 : (k0 : Int) < ((list.length : Nat) : Int) := by omega
      have b2t_10 : ((k0 : Int)).toNat = k0 := by omega
      replace H := let_hid H
      obtain ⟨t_14, ht_14, H⟩ := H
      cases t_14 with
      | false =>
        replace H := ite_f H
        replace H := app_hid H
        go_wp2_with fail
        go_roundg m0
        case measure => omega
        case rel => exact ⟨k0 + 1, _, by omega, by go_num, rfl, H, HBwr0⟩
      | true =>
        replace H := ite_t H
        replace H := app_hid H
        go_wp2_with fail
        go_roundg m0
        case measure => omega
        case rel => exact ⟨k0 + 1, _, by omega, by go_num, rfl, H, HBwr0⟩
end Go.Proofs.YtkinlkmmelkdnaaDoor.GsCertainHues

/- loop.example/g01062/spec.DrawFreeColors as a plain function, and the contract of the program's: where the plain one has an answer, the program has it. Conditions: slices read as lists. -/
namespace Go.Proofs.YtkinlkmmelkdnaaDoor.GsDrawFreeColors
set_option linter.unusedVariables false
set_option linter.unusedSimpArgs false
open Go.RowKit
open Go.Proofs.YtkinlkmmelkdnaaDoor.Rowed Go.Proofs.YtkinlkmmelkdnaaDoor.Turn Go.Proofs.YtkinlkmmelkdnaaDoor.Aid Go.Proofs.YtkinlkmmelkdnaaDoor.GoP Go.Proofs.YtkinlkmmelkdnaaDoor.GoM

def P (fuel : Nat) (tapes : List Int → Go.Proofs.YtkinlkmmelkdnaaDoor.GoC.Tape) (code : (List Int)) : Option ((List Go.Proofs.YtkinlkmmelkdnaaDoor.PShade.Shade) × Int) :=
  letK (tapes code) fun (t_4 : Go.Proofs.YtkinlkmmelkdnaaDoor.GoC.Tape) =>
  bind2 (Go.Proofs.YtkinlkmmelkdnaaDoor.GsL1CurShades7.P fuel t_4) fun (t_7 : (List Go.Proofs.YtkinlkmmelkdnaaDoor.PShade.Shade)) (t_7_tp : Go.Proofs.YtkinlkmmelkdnaaDoor.GoC.Tape) =>
  bind2 (Go.Proofs.YtkinlkmmelkdnaaDoor.GsL1CurLight7.P t_7_tp) fun (t_9 : Int) (t_9_tp : Go.Proofs.YtkinlkmmelkdnaaDoor.GoC.Tape) =>
  some (t_7, t_9)

set_option maxRecDepth 100000 in
set_option maxHeartbeats 2000000 in
theorem C (fuel : Nat) (tapes : List Int → Go.Proofs.YtkinlkmmelkdnaaDoor.GoC.Tape) (code : (List Int)) (A0 : Option Addr) (c0 : Nat)  (w : World) (HE : Hid (Go.Proofs.YtkinlkmmelkdnaaDoor.GoC.Tells tapes)) (M0 : Hid (Cells w 1 A0 code.length (Go.Proofs.YtkinlkmmelkdnaaDoor.GoC.u8s code))) (N0 : Hid (code.length ≤ 9223372036854775807)) (V0 : Hid (∀ z ∈ code, 0 ≤ z ∧ z ≤ 255))  {r0 : (List Go.Proofs.YtkinlkmmelkdnaaDoor.PShade.Shade)} {r1 : Int} (H : Hid (P fuel tapes code = some (r0, r1))) :
    Calls Tryd.prog 34 #[.slice A0 code.length c0] w (fun e w' => ∃ A_r0 c_r0, e = .returned (.tuple #[.slice A_r0 r0.length c_r0, .int .i64 r1]) ∧ w'.ownsRow w.heap.size 54 5 (.slice A_r0 r0.length c_r0) r0.length (Go.Proofs.YtkinlkmmelkdnaaDoor.PShade.flat r0) ∧ Below w.heap.size w w') := by
  have HB := Lib.hid (Below.refl w.heap.size w)
  unfold P at H
  have N0o := N0.out
  go_enter Tryd.func34, Tryd.ntmps34
  replace H := let_hid H
  obtain ⟨t_4, ht_4, H⟩ := H
  obtain ⟨w_t_4, hw_t_4⟩ : ∃ x, w.alloc (.cells #[.slice A0 code.length c0, .int .i64 0, .int .u64 0] 65) = x := ⟨_, rfl⟩
  have bw_t_4 : Below w.heap.size w w_t_4 := by rw [← hw_t_4]; exact (Below.refl _ _).alloc (Nat.le_refl _) _
  have Kt_4 : Hid (Go.Proofs.YtkinlkmmelkdnaaDoor.GoC.CurIs w_t_4 w.heap.size w.heap.size A0 c0 t_4) := Lib.hid (by rw [← hw_t_4, ← ht_4]; exact Go.Proofs.YtkinlkmmelkdnaaDoor.GoC.cur_new HB.out.size (Cells.below M0.out HB.out) (fun a_ ha_ h0_ => by subst ha_; exact Go.Proofs.YtkinlkmmelkdnaaDoor.GoC.cells_lt M0.out (by unfold Go.Proofs.YtkinlkmmelkdnaaDoor.GoC.u8s; rw [List.length_map]; exact h0_)) (HE.out.2.2 code V0.out N0.out))
  have hht_4 := Lib.hid ht_4
  clear ht_4
  have HBw_t_4 := Lib.hid (Below.step HB.out bw_t_4)
  clear bw_t_4
  replace H := bind2_hid H
  obtain ⟨t_7, t_7_tp, qt_7, H⟩ := H
  go_wp2_with fail
  go_at_call 70
  refine (Go.Proofs.YtkinlkmmelkdnaaDoor.GsL1CurShades7.C fuel (t_4) (w.heap.size) (A0) (c0) (w.heap.size) _   Kt_4 qt_7).mono ?_
  rintro e_t_7 wt_7 ⟨At_7, ct_7, rfl, ot_7, kt_7, gt_7⟩
  have Dt_7_t_4 := Lib.hid (Go.Proofs.YtkinlkmmelkdnaaDoor.GoC.apart_callcur ot_7 Kt_4.out)
  have Ot_7 := Lib.hid (own_lower ot_7 HBw_t_4.out.size)
  clear ot_7
  have Kt_7 := Lib.hid kt_7
  have Gt_7 : Hid (w_t_4.grownBy wt_7 (Value.slice (some ⟨w.heap.size, 0, none⟩) 1 1).ownBlock) := Lib.hid gt_7
  clear kt_7 gt_7
  have HBwt_7 := Lib.hid (Go.Proofs.YtkinlkmmelkdnaaDoor.GoC.below_cur HBw_t_4.out Gt_7.out HBw_t_4.out.size (Go.Proofs.YtkinlkmmelkdnaaDoor.GoC.cur_lt Kt_4.out).1)
  clear Kt_4 Gt_7
  replace H := bind2_hid H
  obtain ⟨t_9, t_9_tp, qt_9, H⟩ := H
  go_wp2_with fail
  go_at_call 74
  refine (Go.Proofs.YtkinlkmmelkdnaaDoor.GsL1CurLight7.C (t_7_tp) (w.heap.size) (A0) (c0) (w.heap.size) _   Kt_7 qt_9).mono ?_
  rintro e_t_9 wt_9 ⟨rfl, kt_9, gt_9⟩
  have Kt_9 := Lib.hid kt_9
  have Gt_9 : Hid (wt_7.grownBy wt_9 (Value.slice (some ⟨w.heap.size, 0, none⟩) 1 1).ownBlock) := Lib.hid gt_9
  clear kt_9 gt_9
  have HBwt_9 := Lib.hid (Go.Proofs.YtkinlkmmelkdnaaDoor.GoC.below_cur HBwt_7.out Gt_9.out HBwt_7.out.size (Go.Proofs.YtkinlkmmelkdnaaDoor.GoC.cur_lt Kt_7.out).1)
  replace Ot_7 := Lib.hid (own_other Ot_7.out Gt_9.out (Apart.symm Dt_7_t_4.out))
  clear Kt_7 Gt_9
  cases ret_hid H
  go_wp2_with fail
  go_ret2
  exact ⟨At_7, ct_7, rfl, Ot_7.out, HBwt_9.out⟩
end Go.Proofs.YtkinlkmmelkdnaaDoor.GsDrawFreeColors

/- loop.example/g01062/impl.FreeColors$1 as a plain function, and the contract of the program's: where the plain one has an answer, the program has it. Conditions: slices read as lists. -/
namespace Go.Proofs.YtkinlkmmelkdnaaDoor.GiFreeColors1
set_option linter.unusedVariables false
set_option linter.unusedSimpArgs false
open Go.RowKit
open Go.Proofs.YtkinlkmmelkdnaaDoor.Rowed Go.Proofs.YtkinlkmmelkdnaaDoor.Turn Go.Proofs.YtkinlkmmelkdnaaDoor.Aid Go.Proofs.YtkinlkmmelkdnaaDoor.GoP Go.Proofs.YtkinlkmmelkdnaaDoor.GoM

def P (hue : Int) (hq0 : (List Go.Proofs.YtkinlkmmelkdnaaDoor.PShade.Shade)) (hq1 : Int) : Option (Bool) :=
  Option.bind (Go.Proofs.YtkinlkmmelkdnaaDoor.GiIsFree.P hq0 hue hq1) fun (t_4 : Bool) =>
  some t_4

set_option maxRecDepth 100000 in
set_option maxHeartbeats 2000000 in
theorem C (hue : Int) (hq0 : (List Go.Proofs.YtkinlkmmelkdnaaDoor.PShade.Shade)) (hq1 : Int) (Ahq0 : Option Addr) (chq0 : Nat) (gq0 : Nat) (gq1 : Nat) (w : World) (Mhq0 : Hid (Cells w 5 Ahq0 hq0.length (Go.Proofs.YtkinlkmmelkdnaaDoor.PShade.flat hq0))) (Nhq0 : Hid (hq0.length ≤ 9223372036854775807)) (Fq0h : Hid (w.cell? ⟨gq0, 0, none⟩ = some (.slice Ahq0 hq0.length chq0))) (Fq1h : Hid (w.cell? ⟨gq1, 0, none⟩ = some (.int .i64 hq1))) {r : Bool} (H : Hid (P hue hq0 hq1 = some r)) :
    Calls Tryd.prog 89 #[.int .i64 hue, .pointer (some ⟨gq0, 0, none⟩), .pointer (some ⟨gq1, 0, none⟩)] w (Gives (.bool r) w) := by
  have HB := Lib.hid (Below.refl w.heap.size w)
  unfold P at H
  have Nhq0o := Nhq0.out
  have Fq0 := Fq0h.out
  have Fq1 := Fq1h.out
  go_enter Tryd.func89, Tryd.ntmps89
  replace H := bind_hid H
  obtain ⟨t_4, qt_4, H⟩ := H
  go_wp2_with fail
  go_at_call 84
  refine (Go.Proofs.YtkinlkmmelkdnaaDoor.GiIsFree.C (hq0) (hue) (hq1) Ahq0 chq0 _   (Lib.hid (Cells.below Mhq0.out HB.out)) Nhq0 qt_4).mono ?_
  rintro e_t_4 wt_4 ⟨rfl, bt_4⟩
  have HBwt_4 := Lib.hid (Below.step HB.out bt_4)
  replace Fq0 := cell_below bt_4 Fq0
  replace Fq1 := cell_below bt_4 Fq1
  clear bt_4
  obtain rfl := ret_hid H
  go_wp2_with fail
  go_ret
  exact ⟨rfl, HBwt_4.out⟩
end Go.Proofs.YtkinlkmmelkdnaaDoor.GiFreeColors1

/- loop.example/g01062/impl.countHues as a plain function, and the contract of the program's: where the plain one has an answer, the program has it. Conditions: slices read as lists. -/
namespace Go.Proofs.YtkinlkmmelkdnaaDoor.GiCountHuesiFreeColors1
set_option linter.unusedVariables false
set_option linter.unusedSimpArgs false
open Go.RowKit
open Go.Proofs.YtkinlkmmelkdnaaDoor.Rowed Go.Proofs.YtkinlkmmelkdnaaDoor.Turn Go.Proofs.YtkinlkmmelkdnaaDoor.Aid Go.Proofs.YtkinlkmmelkdnaaDoor.GoP Go.Proofs.YtkinlkmmelkdnaaDoor.GoM

def l0 (hf0_0 : (List Go.Proofs.YtkinlkmmelkdnaaDoor.PShade.Shade)) (hf0_1 : Int) (k0 : Nat) (s : Int) (nx0 bk0 : Int → Option (Int)) : Option (Int) :=
  letK s fun count_3l0 =>
  Option.bind (Go.Proofs.YtkinlkmmelkdnaaDoor.GiFreeColors1.P (k0 : Int) hf0_0 hf0_1) fun (t_8 : Bool) =>
  iteK t_8
  (letK (IntKind.i64.wrap (count_3l0 + 1)) fun (t_10 : Int) =>
  appK nx0 (t_10))
  (appK nx0 (count_3l0))

def e0  (s : Int) : Option (Int) :=
  letK s fun count_3l0 =>
  some count_3l0

def P (hf0_0 : (List Go.Proofs.YtkinlkmmelkdnaaDoor.PShade.Shade)) (hf0_1 : Int) : Option (Int) :=
  cntK (l0 hf0_0 hf0_1) (360) 0 (0) (e0 )

set_option maxRecDepth 100000 in
set_option maxHeartbeats 2000000 in
theorem C (hf0_0 : (List Go.Proofs.YtkinlkmmelkdnaaDoor.PShade.Shade)) (hf0_1 : Int) (Ahf0_0 : Option Addr) (chf0_0 : Nat) (gf0_0 : Nat) (gf0_1 : Nat) (w : World) (Mhf0_0 : Hid (Cells w 5 Ahf0_0 hf0_0.length (Go.Proofs.YtkinlkmmelkdnaaDoor.PShade.flat hf0_0))) (Nhf0_0 : Hid (hf0_0.length ≤ 9223372036854775807)) (Ff0_0h : Hid (w.cell? ⟨gf0_0, 0, none⟩ = some (.slice Ahf0_0 hf0_0.length chf0_0))) (Ff0_1h : Hid (w.cell? ⟨gf0_1, 0, none⟩ = some (.int .i64 hf0_1))) {r : Int} (H : Hid (P hf0_0 hf0_1 = some r)) :
    Calls Tryd.prog 81 #[.func (.func 89) #[] #[.pointer (some ⟨gf0_0, 0, none⟩), .pointer (some ⟨gf0_1, 0, none⟩)]] w (Gives (.int .i64 r) w) := by
  have HB := Lib.hid (Below.refl w.heap.size w)
  unfold P at H
  have Nhf0_0o := Nhf0_0.out
  have Ff0_0 := Ff0_0h.out
  have Ff0_1 := Ff0_1h.out
  go_enter Tryd.func81, Tryd.ntmps81
  go_wp2_with fail
  go_loopg [5, 3] (360) (fun m_ v5_ v3_ wr => ∃ (k0 : Nat) (count_3l0 : Int), k0 + m_ = 360 ∧ v5_ = .int .i64 (k0 : Int) ∧ v3_ = .int .i64 count_3l0 ∧ Hid (cntK (l0 hf0_0 hf0_1) m_ k0 (count_3l0) (e0 ) = some r) ∧ Hid (Below w.heap.size w wr) ∧ wr.cell? ⟨gf0_0, 0, none⟩ = some (.slice Ahf0_0 hf0_0.length chf0_0) ∧ wr.cell? ⟨gf0_1, 0, none⟩ = some (.int .i64 hf0_1))
  case atStart => exact ⟨0, _, by omega, rfl, rfl, H, HB, Ff0_0, Ff0_1⟩
  case round =>
    obtain ⟨k0, count_3l0, hkm0, rfl, rfl, H, HBwr0, Ff0_0, Ff0_1⟩ := hrel
    rename World => wr0
    cases gk with
    | zero =>
      obtain rfl : k0 = 360 := by omega
      have hc0 : decide (((360 : Nat) : Int) < ((360 : Nat) : Int)) = false := by simp
      replace H := cnt_zero H
      unfold e0 at H
      replace H := let_hid H
      obtain ⟨_, rfl, H⟩ := H
      obtain rfl := ret_hid H
      go_wp2_with fail
      go_ret
      exact ⟨rfl, HBwr0.out⟩
    | succ m0 =>
      have hlt0 : k0 < 360 := by omega
      have hc0 : decide ((k0 : Int) < ((360 : Nat) : Int)) = true := by simp; omega
      replace H := cnt_succ H
      unfold l0 at H
      replace H := let_hid H
      obtain ⟨_, rfl, H⟩ := H
      replace H := bind_hid H
      obtain ⟨t_8, qt_8, H⟩ := H
      go_wp2_with fail
      go_at_call 89
      refine (Go.Proofs.YtkinlkmmelkdnaaDoor.GiFreeColors1.C ((k0 : Int)) (hf0_0) (hf0_1) Ahf0_0 chf0_0 (gf0_0) (gf0_1) _   (Lib.hid (Cells.below Mhf0_0.out HBwr0.out)) Nhf0_0 (Lib.hid Ff0_0) (Lib.hid Ff0_1) qt_8).mono ?_
      rintro e_t_8 wt_8 ⟨rfl, bt_8⟩
      have HBwt_8 := Lib.hid (Below.step HBwr0.out bt_8)
      replace Ff0_0 := cell_below bt_8 Ff0_0
      replace Ff0_1 := cell_below bt_8 Ff0_1
      clear bt_8
      cases t_8 with
      | false =>
        replace H := ite_f H
        replace H := app_hid H
        go_wp2_with fail
        go_roundg m0
        case measure => omega
        case rel => exact ⟨k0 + 1, _, by omega, by go_num, rfl, H, HBwt_8, Ff0_0, Ff0_1⟩
      | true =>
        replace H := ite_t H
        replace H := let_hid H
        obtain ⟨t_10, ht_10, H⟩ := H
        replace H := app_hid H
        go_wp2_with fail
        go_roundg m0
        case measure => omega
        case rel => exact ⟨k0 + 1, _, by omega, by go_num, rfl, H, HBwt_8, Ff0_0, Ff0_1⟩
end Go.Proofs.YtkinlkmmelkdnaaDoor.GiCountHuesiFreeColors1

/- loop.example/g01062/impl.FreeColors as a plain function, and the contract of the program's: where the plain one has an answer, the program has it. Conditions: slices read as lists. -/
namespace Go.Proofs.YtkinlkmmelkdnaaDoor.GiFreeColors
set_option linter.unusedVariables false
set_option linter.unusedSimpArgs false
open Go.RowKit
open Go.Proofs.YtkinlkmmelkdnaaDoor.Rowed Go.Proofs.YtkinlkmmelkdnaaDoor.Turn Go.Proofs.YtkinlkmmelkdnaaDoor.Aid Go.Proofs.YtkinlkmmelkdnaaDoor.GoP Go.Proofs.YtkinlkmmelkdnaaDoor.GoM

def P (list : (List Go.Proofs.YtkinlkmmelkdnaaDoor.PShade.Shade)) (light : Int) : Option (Int × Bool) :=
  Option.bind (Go.Proofs.YtkinlkmmelkdnaaDoor.GiAreShades.P list) fun (t_5 : Bool) =>
  letK (!t_5) fun (t_6 : Bool) =>
  joinK (fun (t_11 : Bool) =>
  iteK t_11
  (some (0, false))
  (Option.bind (Go.Proofs.YtkinlkmmelkdnaaDoor.GiCountHuesiFreeColors1.P list light) fun (t_15 : Int) =>
  some (t_15, true))) fun jt_11 => iteK t_6 (appK jt_11 true) (Option.bind (Go.Proofs.YtkinlkmmelkdnaaDoor.GiIsLightness.P light) fun (t_9 : Bool) =>
  letK (!t_9) fun (t_10 : Bool) =>
  appK jt_11 t_10)

set_option maxRecDepth 100000 in
set_option maxHeartbeats 2000000 in
theorem C (list : (List Go.Proofs.YtkinlkmmelkdnaaDoor.PShade.Shade)) (light : Int) (A0 : Option Addr) (c0 : Nat)  (w : World) (M0 : Hid (Cells w 5 A0 list.length (Go.Proofs.YtkinlkmmelkdnaaDoor.PShade.flat list))) (N0 : Hid (list.length ≤ 9223372036854775807))  {r0 : Int} {r1 : Bool} (H : Hid (P list light = some (r0, r1))) :
    Calls Tryd.prog 35 #[.slice A0 list.length c0, .int .i64 light] w (Gives (.tuple #[.int .i64 r0, .bool r1]) w) := by
  have HB := Lib.hid (Below.refl w.heap.size w)
  unfold P at H
  have N0o := N0.out
  go_enter Tryd.func35, Tryd.ntmps35
  obtain ⟨w_list_0, hw_list_0⟩ : ∃ x, w.alloc (.cells #[.slice A0 list.length c0] 49) = x := ⟨_, rfl⟩
  have bw_list_0 : Below w.heap.size w w_list_0 := by rw [← hw_list_0]; exact (Below.refl _ _).alloc (Nat.le_refl _) _
  have HBw_list_0 := Lib.hid (Below.step HB.out bw_list_0)
  clear bw_list_0
  have klist_0_0 : w_list_0.cell? ⟨w.heap.size, 0, none⟩ = some (.slice A0 list.length c0) := by rw [← hw_list_0]; exact box_new _ _ _ 0 _ rfl
  obtain ⟨w_light_1, hw_light_1⟩ : ∃ x, w_list_0.alloc (.cells #[.int .i64 light] 3) = x := ⟨_, rfl⟩
  have bw_light_1 : Below w_list_0.heap.size w_list_0 w_light_1 := by rw [← hw_light_1]; exact (Below.refl _ _).alloc (Nat.le_refl _) _
  have HBw_light_1 := Lib.hid (Below.step HBw_list_0.out bw_light_1)
  have klist_0_0__282 := cell_below bw_light_1 klist_0_0
  clear bw_light_1
  have klight_1_0 : w_light_1.cell? ⟨w_list_0.heap.size, 0, none⟩ = some (.int .i64 light) := by rw [← hw_light_1]; exact box_new _ _ _ 0 _ rfl
  replace H := bind_hid H
  obtain ⟨t_5, qt_5, H⟩ := H
  go_wp2_with fail
  clear klist_0_0
  go_at_call 75
  refine (Go.Proofs.YtkinlkmmelkdnaaDoor.GiAreShades.C (list) A0 c0 _   (Lib.hid (Cells.below M0.out HBw_light_1.out)) N0 qt_5).mono ?_
  rintro e_t_5 wt_5 ⟨rfl, bt_5⟩
  have HBwt_5 := Lib.hid (Below.step HBw_light_1.out bt_5)
  replace klist_0_0__282 := cell_below bt_5 klist_0_0__282
  replace klight_1_0 := cell_below bt_5 klight_1_0
  clear bt_5
  cases t_5 with
  | false =>
    replace H := let_hid H
    obtain ⟨t_6, ht_6, H⟩ := H
    obtain rfl : t_6 = true := ht_6.symm
    replace H := join_hid H
    replace H := ite_t H
    replace H := app_hid H
    replace H := ite_t H
    cases ret_hid H
    go_wp2_with fail
    go_ret2
    exact ⟨rfl, HBwt_5.out⟩
  | true =>
    replace H := let_hid H
    obtain ⟨t_6, ht_6, H⟩ := H
    obtain rfl : t_6 = false := ht_6.symm
    replace H := join_hid H
    replace H := ite_f H
    replace H := bind_hid H
    obtain ⟨t_9, qt_9, H⟩ := H
    go_wp2_with fail
    go_at_call 76
    refine (Go.Proofs.YtkinlkmmelkdnaaDoor.GiIsLightness.C (light)  _    qt_9).mono ?_
    rintro e_t_9 wt_9 ⟨rfl, bt_9⟩
    have HBwt_9 := Lib.hid (Below.step HBwt_5.out bt_9)
    replace klist_0_0__282 := cell_below bt_9 klist_0_0__282
    replace klight_1_0 := cell_below bt_9 klight_1_0
    clear bt_9
    cases t_9 with
    | false =>
      replace H := let_hid H
      obtain ⟨t_10, ht_10, H⟩ := H
      obtain rfl : t_10 = true := ht_10.symm
      replace H := app_hid H
      replace H := ite_t H
      cases ret_hid H
      go_wp2_with fail
      go_ret2
      exact ⟨rfl, HBwt_9.out⟩
    | true =>
      replace H := let_hid H
      obtain ⟨t_10, ht_10, H⟩ := H
      obtain rfl : t_10 = false := ht_10.symm
      replace H := app_hid H
      replace H := ite_f H
      replace H := bind_hid H
      obtain ⟨t_15, qt_15, H⟩ := H
      go_wp2_with fail
      go_at_call 81
      refine (Go.Proofs.YtkinlkmmelkdnaaDoor.GiCountHuesiFreeColors1.C (list) (light) A0 c0 (w.heap.size) (w_list_0.heap.size) _   (Lib.hid (Cells.below M0.out HBwt_9.out)) N0 (Lib.hid klist_0_0__282) (Lib.hid klight_1_0) qt_15).mono ?_
      rintro e_t_15 wt_15 ⟨rfl, bt_15⟩
      have HBwt_15 := Lib.hid (Below.step HBwt_9.out bt_15)
      replace klist_0_0__282 := cell_below bt_15 klist_0_0__282
      replace klight_1_0 := cell_below bt_15 klight_1_0
      clear bt_15
      cases ret_hid H
      go_wp2_with fail
      go_ret2
      exact ⟨rfl, HBwt_15.out⟩
end Go.Proofs.YtkinlkmmelkdnaaDoor.GiFreeColors

/- loop.example/g01062/spec.FreeColors as a plain function, and the contract of the program's: where the plain one has an answer, the program has it. Conditions: slices read as lists. -/
namespace Go.Proofs.YtkinlkmmelkdnaaDoor.GsFreeColors
set_option linter.unusedVariables false
set_option linter.unusedSimpArgs false
open Go.RowKit
open Go.Proofs.YtkinlkmmelkdnaaDoor.Rowed Go.Proofs.YtkinlkmmelkdnaaDoor.Turn Go.Proofs.YtkinlkmmelkdnaaDoor.Aid Go.Proofs.YtkinlkmmelkdnaaDoor.GoP Go.Proofs.YtkinlkmmelkdnaaDoor.GoM

def l0 (list : (List Go.Proofs.YtkinlkmmelkdnaaDoor.PShade.Shade)) (light : Int) (k0 : Nat) (s : Int) (nx0 bk0 : Int → Option (Int × Bool)) : Option (Int × Bool) :=
  letK s fun n_6l0 =>
  Option.bind (Go.Proofs.YtkinlkmmelkdnaaDoor.GsL7Count.P list (k0 : Int) light) fun (t_19 : Int) =>
  letK (t_19 == 0) fun (t_20 : Bool) =>
  iteK t_20
  (letK (IntKind.i64.wrap (n_6l0 + 1)) fun (t_22 : Int) =>
  appK nx0 (t_22))
  (appK nx0 (n_6l0))

def e0  (s : Int) : Option (Int × Bool) :=
  letK s fun n_6l0 =>
  some (n_6l0, true)

def P (list : (List Go.Proofs.YtkinlkmmelkdnaaDoor.PShade.Shade)) (light : Int) : Option (Int × Bool) :=
  Option.bind (Go.Proofs.YtkinlkmmelkdnaaDoor.GsL7Good.P list) fun (t_3 : Bool) =>
  letK (!t_3) fun (t_4 : Bool) =>
  joinK (fun (t_9 : Bool) =>
  iteK t_9
  (some (0, false))
  (cntK (l0 list light) (360) 0 (0) (e0 ))) fun jt_9 => iteK t_4 (appK jt_9 true) (Option.bind (Go.Proofs.YtkinlkmmelkdnaaDoor.GsL1In.P light 0 100) fun (t_7 : Bool) =>
  letK (!t_7) fun (t_8 : Bool) =>
  appK jt_9 t_8)

set_option maxRecDepth 100000 in
set_option maxHeartbeats 2000000 in
theorem C (list : (List Go.Proofs.YtkinlkmmelkdnaaDoor.PShade.Shade)) (light : Int) (A0 : Option Addr) (c0 : Nat)  (w : World) (M0 : Hid (Cells w 5 A0 list.length (Go.Proofs.YtkinlkmmelkdnaaDoor.PShade.flat list))) (N0 : Hid (list.length ≤ 9223372036854775807))  {r0 : Int} {r1 : Bool} (H : Hid (P list light = some (r0, r1))) :
    Calls Tryd.prog 36 #[.slice A0 list.length c0, .int .i64 light] w (Gives (.tuple #[.int .i64 r0, .bool r1]) w) := by
  have HB := Lib.hid (Below.refl w.heap.size w)
  unfold P at H
  have N0o := N0.out
  go_enter Tryd.func36, Tryd.ntmps36
  replace H := bind_hid H
  obtain ⟨t_3, qt_3, H⟩ := H
  go_wp2_with fail
  go_at_call 85
  refine (Go.Proofs.YtkinlkmmelkdnaaDoor.GsL7Good.C (list) A0 c0 _   (Lib.hid (Cells.below M0.out HB.out)) N0 qt_3).mono ?_
  rintro e_t_3 wt_3 ⟨rfl, bt_3⟩
  have HBwt_3 := Lib.hid (Below.step HB.out bt_3)
  clear bt_3
  cases t_3 with
  | false =>
    replace H := let_hid H
    obtain ⟨t_4, ht_4, H⟩ := H
    obtain rfl : t_4 = true := ht_4.symm
    replace H := join_hid H
    replace H := ite_t H
    replace H := app_hid H
    replace H := ite_t H
    cases ret_hid H
    go_wp2_with fail
    go_ret2
    exact ⟨rfl, HBwt_3.out⟩
  | true =>
    replace H := let_hid H
    obtain ⟨t_4, ht_4, H⟩ := H
    obtain rfl : t_4 = false := ht_4.symm
    replace H := join_hid H
    replace H := ite_f H
    replace H := bind_hid H
    obtain ⟨t_7, qt_7, H⟩ := H
    go_wp2_with fail
    go_at_call 86
    refine (Go.Proofs.YtkinlkmmelkdnaaDoor.GsL1In.C (light) (0) (100)  _    qt_7).mono ?_
    rintro e_t_7 wt_7 ⟨rfl, bt_7⟩
    have HBwt_7 := Lib.hid (Below.step HBwt_3.out bt_7)
    clear bt_7
    cases t_7 with
    | false =>
      replace H := let_hid H
      obtain ⟨t_8, ht_8, H⟩ := H
      obtain rfl : t_8 = true := ht_8.symm
      replace H := app_hid H
      replace H := ite_t H
      cases ret_hid H
      go_wp2_with fail
      go_ret2
      exact ⟨rfl, HBwt_7.out⟩
    | true =>
      replace H := let_hid H
      obtain ⟨t_8, ht_8, H⟩ := H
      obtain rfl : t_8 = false := ht_8.symm
      replace H := app_hid H
      replace H := ite_f H
      go_wp2_with fail
      go_loopg [7, 6] (360) (fun m_ v7_ v6_ wr => ∃ (k0 : Nat) (n_6l0 : Int), k0 + m_ = 360 ∧ v7_ = .int .i64 (k0 : Int) ∧ v6_ = .int .i64 n_6l0 ∧ Hid (cntK (l0 list light) m_ k0 (n_6l0) (e0 ) = some (r0, r1)) ∧ Hid (Below w.heap.size w wr))
      case atStart => exact ⟨0, _, by omega, rfl, rfl, H, HBwt_7⟩
      case round =>
        obtain ⟨k0, n_6l0, hkm0, rfl, rfl, H, HBwr0⟩ := hrel
        rename World => wr0
        cases gk with
        | zero =>
          obtain rfl : k0 = 360 := by omega
          have hc0 : decide (((360 : Nat) : Int) < ((360 : Nat) : Int)) = false := by simp
          replace H := cnt_zero H
          unfold e0 at H
          replace H := let_hid H
          obtain ⟨_, rfl, H⟩ := H
          cases ret_hid H
          go_wp2_with fail
          go_ret2
          exact ⟨rfl, HBwr0.out⟩
        | succ m0 =>
          have hlt0 : k0 < 360 := by omega
          have hc0 : decide ((k0 : Int) < ((360 : Nat) : Int)) = true := by simp; omega
          replace H := cnt_succ H
          unfold l0 at H
          replace H := let_hid H
          obtain ⟨_, rfl, H⟩ := H
          replace H := bind_hid H
          obtain ⟨t_19, qt_19, H⟩ := H
          go_wp2_with fail
          go_at_call 88
          refine (Go.Proofs.YtkinlkmmelkdnaaDoor.GsL7Count.C (list) ((k0 : Int)) (light) A0 c0 _   (Lib.hid (Cells.below M0.out HBwr0.out)) N0 qt_19).mono ?_
          rintro e_t_19 wt_19 ⟨rfl, bt_19⟩
          have HBwt_19 := Lib.hid (Below.step HBwr0.out bt_19)
          clear bt_19
          replace H := let_hid H
          obtain ⟨t_20, ht_20, H⟩ := H
          cases t_20 with
          | false =>
            replace H := ite_f H
            replace H := app_hid H
            go_wp2_with fail
            go_roundg m0
            case measure => omega
            case rel => exact ⟨k0 + 1, _, by omega, by go_num, rfl, H, HBwt_19⟩
          | true =>
            replace H := ite_t H
            replace H := let_hid H
            obtain ⟨t_22, ht_22, H⟩ := H
            replace H := app_hid H
            go_wp2_with fail
            go_roundg m0
            case measure => omega
            case rel => exact ⟨k0 + 1, _, by omega, by go_num, rfl, H, HBwt_19⟩
end Go.Proofs.YtkinlkmmelkdnaaDoor.GsFreeColors

/- loop.example/g01062/spec.DrawIsShade as a plain function, and the contract of the program's: where the plain one has an answer, the program has it. Conditions: slices read as lists. -/
namespace Go.Proofs.YtkinlkmmelkdnaaDoor.GsDrawIsShade
set_option linter.unusedVariables false
set_option linter.unusedSimpArgs false
open Go.RowKit
open Go.Proofs.YtkinlkmmelkdnaaDoor.Rowed Go.Proofs.YtkinlkmmelkdnaaDoor.Turn Go.Proofs.YtkinlkmmelkdnaaDoor.Aid Go.Proofs.YtkinlkmmelkdnaaDoor.GoP Go.Proofs.YtkinlkmmelkdnaaDoor.GoM

def P (tapes : List Int → Go.Proofs.YtkinlkmmelkdnaaDoor.GoC.Tape) (code : (List Int)) : Option (Go.Proofs.YtkinlkmmelkdnaaDoor.PShade.Shade) :=
  letK (tapes code) fun (t_3 : Go.Proofs.YtkinlkmmelkdnaaDoor.GoC.Tape) =>
  bind2 (Go.Proofs.YtkinlkmmelkdnaaDoor.GsL1CurShade7.P t_3 (⟨#[114, 111, 115, 101]⟩ : ByteArray)) fun (t_6 : Go.Proofs.YtkinlkmmelkdnaaDoor.PShade.Shade) (t_6_tp : Go.Proofs.YtkinlkmmelkdnaaDoor.GoC.Tape) =>
  unShade t_6 fun (t_6_name : ByteArray) (t_6_hue : Int) (t_6_width : Int) (t_6_dark : Int) (t_6_light : Int) =>
  some (Go.Proofs.YtkinlkmmelkdnaaDoor.PShade.Shade.mk t_6_name t_6_hue t_6_width t_6_dark t_6_light)

set_option maxRecDepth 100000 in
set_option maxHeartbeats 2000000 in
theorem C (tapes : List Int → Go.Proofs.YtkinlkmmelkdnaaDoor.GoC.Tape) (code : (List Int)) (A0 : Option Addr) (c0 : Nat)  (w : World) (HE : Hid (Go.Proofs.YtkinlkmmelkdnaaDoor.GoC.Tells tapes)) (M0 : Hid (Cells w 1 A0 code.length (Go.Proofs.YtkinlkmmelkdnaaDoor.GoC.u8s code))) (N0 : Hid (code.length ≤ 9223372036854775807)) (V0 : Hid (∀ z ∈ code, 0 ≤ z ∧ z ≤ 255))  {r : Go.Proofs.YtkinlkmmelkdnaaDoor.PShade.Shade} (H : Hid (P tapes code = some r)) :
    Calls Tryd.prog 90 #[.slice A0 code.length c0] w (Gives ((Go.Proofs.YtkinlkmmelkdnaaDoor.PShade.Shade.val r)) w) := by
  have HB := Lib.hid (Below.refl w.heap.size w)
  unfold P at H
  have N0o := N0.out
  go_enter Tryd.func90, Tryd.ntmps90
  obtain ⟨w_t_0, hw_t_0⟩ : ∃ x, w.alloc (.cells #[.string (⟨#[]⟩ : ByteArray), .int .i64 0, .int .i64 0, .int .i64 0, .int .i64 0] 54) = x := ⟨_, rfl⟩
  have bw_t_0 : Below w.heap.size w w_t_0 := by rw [← hw_t_0]; exact (Below.refl _ _).alloc (Nat.le_refl _) _
  have HBw_t_0 := Lib.hid (Below.step HB.out bw_t_0)
  clear bw_t_0
  have kt_0_0 : w_t_0.cell? ⟨w.heap.size, 0, none⟩ = some (.string (⟨#[]⟩ : ByteArray)) := by rw [← hw_t_0]; exact box_new _ _ _ 0 _ rfl
  have kt_0_1 : w_t_0.cell? ⟨w.heap.size, 1, none⟩ = some (.int .i64 0) := by rw [← hw_t_0]; exact box_new _ _ _ 1 _ rfl
  have kt_0_2 : w_t_0.cell? ⟨w.heap.size, 2, none⟩ = some (.int .i64 0) := by rw [← hw_t_0]; exact box_new _ _ _ 2 _ rfl
  have kt_0_3 : w_t_0.cell? ⟨w.heap.size, 3, none⟩ = some (.int .i64 0) := by rw [← hw_t_0]; exact box_new _ _ _ 3 _ rfl
  have kt_0_4 : w_t_0.cell? ⟨w.heap.size, 4, none⟩ = some (.int .i64 0) := by rw [← hw_t_0]; exact box_new _ _ _ 4 _ rfl
  have Ot_0 : Hid (w_t_0.ownsRow w.heap.size 54 5 (.slice (some ⟨w.heap.size, 0, none⟩) 1 1) 1 [.string (⟨#[]⟩ : ByteArray), .int .i64 0, .int .i64 0, .int .i64 0, .int .i64 0]) := Lib.hid (by rw [← hw_t_0]; exact own_laid (n := 1) HB.out.size rfl rfl (by unfold maxLen; omega))
  replace H := let_hid H
  obtain ⟨t_3, ht_3, H⟩ := H
  obtain ⟨w_t_3, hw_t_3⟩ : ∃ x, w_t_0.alloc (.cells #[.slice A0 code.length c0, .int .i64 0, .int .u64 0] 65) = x := ⟨_, rfl⟩
  have bw_t_3 : Below w_t_0.heap.size w_t_0 w_t_3 := by rw [← hw_t_3]; exact (Below.refl _ _).alloc (Nat.le_refl _) _
  have Kt_3 : Hid (Go.Proofs.YtkinlkmmelkdnaaDoor.GoC.CurIs w_t_3 w.heap.size w_t_0.heap.size A0 c0 t_3) := Lib.hid (by rw [← hw_t_3, ← ht_3]; exact Go.Proofs.YtkinlkmmelkdnaaDoor.GoC.cur_new HBw_t_0.out.size (Cells.below M0.out HBw_t_0.out) (fun a_ ha_ h0_ => by subst ha_; exact Go.Proofs.YtkinlkmmelkdnaaDoor.GoC.cells_lt M0.out (by unfold Go.Proofs.YtkinlkmmelkdnaaDoor.GoC.u8s; rw [List.length_map]; exact h0_)) (HE.out.2.2 code V0.out N0.out))
  have hht_3 := Lib.hid ht_3
  clear ht_3
  have Dt_3_t_0 := Lib.hid (apart_box kt_0_0)
  have HBw_t_3 := Lib.hid (Below.step HBw_t_0.out bw_t_3)
  have kt_0_0__283 := cell_below bw_t_3 kt_0_0
  have kt_0_1__284 := cell_below bw_t_3 kt_0_1
  have kt_0_2__285 := cell_below bw_t_3 kt_0_2
  have kt_0_3__286 := cell_below bw_t_3 kt_0_3
  have kt_0_4__287 := cell_below bw_t_3 kt_0_4
  replace Ot_0 := Lib.hid (own_below Ot_0.out bw_t_3)
  clear bw_t_3
  replace H := bind2_hid H
  obtain ⟨t_6, t_6_tp, qt_6, H⟩ := H
  obtain ⟨t_6_name, t_6_hue, t_6_width, t_6_dark, t_6_light⟩ := t_6
  replace H := unShade_hid H
  go_wp2_with fail
  clear kt_0_0 kt_0_1 kt_0_2 kt_0_3 kt_0_4
  go_at_call 103
  refine (Go.Proofs.YtkinlkmmelkdnaaDoor.GsL1CurShade7.C (t_3) ((⟨#[114, 111, 115, 101]⟩ : ByteArray)) (w_t_0.heap.size) (A0) (c0) (w.heap.size) _   Kt_3 qt_6).mono ?_
  rintro e_t_6 wt_6 ⟨rfl, kt_6, gt_6⟩
  unfold Go.Proofs.YtkinlkmmelkdnaaDoor.PShade.Shade.val
  have Kt_6 := Lib.hid kt_6
  have Gt_6 : Hid (w_t_3.grownBy wt_6 (Value.slice (some ⟨w_t_0.heap.size, 0, none⟩) 1 1).ownBlock) := Lib.hid gt_6
  clear kt_6 gt_6
  have HBwt_6 := Lib.hid (Go.Proofs.YtkinlkmmelkdnaaDoor.GoC.below_cur HBw_t_3.out Gt_6.out HBw_t_3.out.size (Go.Proofs.YtkinlkmmelkdnaaDoor.GoC.cur_lt Kt_3.out).1)
  replace kt_0_0__283 := cell_other kt_0_0__283 Gt_6.out Dt_3_t_0.out
  replace kt_0_1__284 := cell_other kt_0_1__284 Gt_6.out Dt_3_t_0.out
  replace kt_0_2__285 := cell_other kt_0_2__285 Gt_6.out Dt_3_t_0.out
  replace kt_0_3__286 := cell_other kt_0_3__286 Gt_6.out Dt_3_t_0.out
  replace kt_0_4__287 := cell_other kt_0_4__287 Gt_6.out Dt_3_t_0.out
  replace Ot_0 := Lib.hid (own_other Ot_0.out Gt_6.out Dt_3_t_0.out)
  clear Kt_3 Gt_6
  obtain ⟨wb7_7, hwb7_7⟩ : ∃ x, (((((wt_6).setCell ⟨w.heap.size, 0, none⟩ (.string t_6_name)).setCell ⟨w.heap.size, 1, none⟩ (.int .i64 t_6_hue)).setCell ⟨w.heap.size, 2, none⟩ (.int .i64 t_6_width)).setCell ⟨w.heap.size, 3, none⟩ (.int .i64 t_6_dark)).setCell ⟨w.heap.size, 4, none⟩ (.int .i64 t_6_light) = x := ⟨_, rfl⟩
  have z0b7_7 := Ot_0.out.frozenAt 0
  have z1b7_7 := Ot_0.out.frozenAt 1
  have z2b7_7 := Ot_0.out.frozenAt 2
  have z3b7_7 := Ot_0.out.frozenAt 3
  have z4b7_7 := Ot_0.out.frozenAt 4
  have Sb7_7 := Lib.hid (own_stores [(0, .string t_6_name), (1, .int .i64 t_6_hue), (2, .int .i64 t_6_width), (3, .int .i64 t_6_dark), (4, .int .i64 t_6_light)] Ot_0.out)
  have Pb7_7 : Hid (wb7_7.ownsRow w.heap.size 54 5 (.slice (some ⟨w.heap.size, 0, none⟩) 1 1) 1 [.string t_6_name, .int .i64 t_6_hue, .int .i64 t_6_width, .int .i64 t_6_dark, .int .i64 t_6_light]) := Lib.hid (by rw [← hwb7_7]; exact Sb7_7.out.1)
  have Gb7_7 : Hid (wt_6.grownBy wb7_7 (Value.slice (some ⟨w.heap.size, 0, none⟩) 1 1).ownBlock) := Lib.hid (by rw [← hwb7_7]; exact Sb7_7.out.2)
  have HBwb7_7 := Lib.hid (HBwt_6.out.grown Gb7_7.out HBwt_6.out.size (fun q hq => (Ot_0.out.lt q hq).1))
  clear Sb7_7
  replace Kt_6 := Lib.hid (Go.Proofs.YtkinlkmmelkdnaaDoor.GoC.cur_other Kt_6.out Gb7_7.out (Apart.symm Dt_3_t_0.out) (Go.Proofs.YtkinlkmmelkdnaaDoor.GoC.own_ge Ot_0.out))
  clear Ot_0 Gb7_7
  have kt_0_0__288 : wb7_7.cell? ⟨w.heap.size, 0, none⟩ = some (.string t_6_name) := Pb7_7.out.cells rfl 0 _ rfl
  have kt_0_1__289 : wb7_7.cell? ⟨w.heap.size, 1, none⟩ = some (.int .i64 t_6_hue) := Pb7_7.out.cells rfl 1 _ rfl
  have kt_0_2__290 : wb7_7.cell? ⟨w.heap.size, 2, none⟩ = some (.int .i64 t_6_width) := Pb7_7.out.cells rfl 2 _ rfl
  have kt_0_3__291 : wb7_7.cell? ⟨w.heap.size, 3, none⟩ = some (.int .i64 t_6_dark) := Pb7_7.out.cells rfl 3 _ rfl
  have kt_0_4__292 : wb7_7.cell? ⟨w.heap.size, 4, none⟩ = some (.int .i64 t_6_light) := Pb7_7.out.cells rfl 4 _ rfl
  cases ret_hid H
  go_wp2_with fail
  (try simp only [Exit.inBlock, Exit.then])
  refine bodyPost_ret (v := .agg #[.string t_6_name, .int .i64 t_6_hue, .int .i64 t_6_width, .int .i64 t_6_dark, .int .i64 t_6_light]) ?hr_ ?hd_ ?_
  case hd_ => rfl
  case hr_ => simp [results, Tryd.results90, kt_0_0__288, kt_0_1__289, kt_0_2__290, kt_0_3__291, kt_0_4__292, go_sem]
  exact ⟨rfl, HBwb7_7.out⟩
end Go.Proofs.YtkinlkmmelkdnaaDoor.GsDrawIsShade

/- loop.example/g01062/spec.DrawColorsIn as a plain function, and the contract of the program's: where the plain one has an answer, the program has it. Conditions: slices read as lists. -/
namespace Go.Proofs.YtkinlkmmelkdnaaDoor.GsDrawColorsIn
set_option linter.unusedVariables false
set_option linter.unusedSimpArgs false
open Go.RowKit
open Go.Proofs.YtkinlkmmelkdnaaDoor.Rowed Go.Proofs.YtkinlkmmelkdnaaDoor.Turn Go.Proofs.YtkinlkmmelkdnaaDoor.Aid Go.Proofs.YtkinlkmmelkdnaaDoor.GoP Go.Proofs.YtkinlkmmelkdnaaDoor.GoM

def P (tapes : List Int → Go.Proofs.YtkinlkmmelkdnaaDoor.GoC.Tape) (code : (List Int)) : Option (Go.Proofs.YtkinlkmmelkdnaaDoor.PShade.Shade) :=
  Option.bind (Go.Proofs.YtkinlkmmelkdnaaDoor.GsDrawIsShade.P tapes code) fun (t_2 : Go.Proofs.YtkinlkmmelkdnaaDoor.PShade.Shade) =>
  unShade t_2 fun (t_2_name : ByteArray) (t_2_hue : Int) (t_2_width : Int) (t_2_dark : Int) (t_2_light : Int) =>
  some (Go.Proofs.YtkinlkmmelkdnaaDoor.PShade.Shade.mk t_2_name t_2_hue t_2_width t_2_dark t_2_light)

set_option maxRecDepth 100000 in
set_option maxHeartbeats 2000000 in
theorem C (tapes : List Int → Go.Proofs.YtkinlkmmelkdnaaDoor.GoC.Tape) (code : (List Int)) (A0 : Option Addr) (c0 : Nat)  (w : World) (HE : Hid (Go.Proofs.YtkinlkmmelkdnaaDoor.GoC.Tells tapes)) (M0 : Hid (Cells w 1 A0 code.length (Go.Proofs.YtkinlkmmelkdnaaDoor.GoC.u8s code))) (N0 : Hid (code.length ≤ 9223372036854775807)) (V0 : Hid (∀ z ∈ code, 0 ≤ z ∧ z ≤ 255))  {r : Go.Proofs.YtkinlkmmelkdnaaDoor.PShade.Shade} (H : Hid (P tapes code = some r)) :
    Calls Tryd.prog 37 #[.slice A0 code.length c0] w (Gives ((Go.Proofs.YtkinlkmmelkdnaaDoor.PShade.Shade.val r)) w) := by
  have HB := Lib.hid (Below.refl w.heap.size w)
  unfold P at H
  have N0o := N0.out
  go_enter Tryd.func37, Tryd.ntmps37
  obtain ⟨w_t_0, hw_t_0⟩ : ∃ x, w.alloc (.cells #[.string (⟨#[]⟩ : ByteArray), .int .i64 0, .int .i64 0, .int .i64 0, .int .i64 0] 54) = x := ⟨_, rfl⟩
  have bw_t_0 : Below w.heap.size w w_t_0 := by rw [← hw_t_0]; exact (Below.refl _ _).alloc (Nat.le_refl _) _
  have HBw_t_0 := Lib.hid (Below.step HB.out bw_t_0)
  clear bw_t_0
  have kt_0_0 : w_t_0.cell? ⟨w.heap.size, 0, none⟩ = some (.string (⟨#[]⟩ : ByteArray)) := by rw [← hw_t_0]; exact box_new _ _ _ 0 _ rfl
  have kt_0_1 : w_t_0.cell? ⟨w.heap.size, 1, none⟩ = some (.int .i64 0) := by rw [← hw_t_0]; exact box_new _ _ _ 1 _ rfl
  have kt_0_2 : w_t_0.cell? ⟨w.heap.size, 2, none⟩ = some (.int .i64 0) := by rw [← hw_t_0]; exact box_new _ _ _ 2 _ rfl
  have kt_0_3 : w_t_0.cell? ⟨w.heap.size, 3, none⟩ = some (.int .i64 0) := by rw [← hw_t_0]; exact box_new _ _ _ 3 _ rfl
  have kt_0_4 : w_t_0.cell? ⟨w.heap.size, 4, none⟩ = some (.int .i64 0) := by rw [← hw_t_0]; exact box_new _ _ _ 4 _ rfl
  have Ot_0 : Hid (w_t_0.ownsRow w.heap.size 54 5 (.slice (some ⟨w.heap.size, 0, none⟩) 1 1) 1 [.string (⟨#[]⟩ : ByteArray), .int .i64 0, .int .i64 0, .int .i64 0, .int .i64 0]) := Lib.hid (by rw [← hw_t_0]; exact own_laid (n := 1) HB.out.size rfl rfl (by unfold maxLen; omega))
  replace H := bind_hid H
  obtain ⟨t_2, qt_2, H⟩ := H
  obtain ⟨t_2_name, t_2_hue, t_2_width, t_2_dark, t_2_light⟩ := t_2
  replace H := unShade_hid H
  go_wp2_with fail
  go_at_call 90
  refine (Go.Proofs.YtkinlkmmelkdnaaDoor.GsDrawIsShade.C tapes (code) A0 c0 _  HE (Lib.hid (Cells.below M0.out HBw_t_0.out)) N0 V0 qt_2).mono ?_
  rintro e_t_2 wt_2 ⟨rfl, bt_2⟩
  unfold Go.Proofs.YtkinlkmmelkdnaaDoor.PShade.Shade.val
  have HBwt_2 := Lib.hid (Below.step HBw_t_0.out bt_2)
  replace kt_0_0 := cell_below bt_2 kt_0_0
  replace kt_0_1 := cell_below bt_2 kt_0_1
  replace kt_0_2 := cell_below bt_2 kt_0_2
  replace kt_0_3 := cell_below bt_2 kt_0_3
  replace kt_0_4 := cell_below bt_2 kt_0_4
  replace Ot_0 := Lib.hid (own_below Ot_0.out bt_2)
  clear bt_2
  obtain ⟨wb3_3, hwb3_3⟩ : ∃ x, (((((wt_2).setCell ⟨w.heap.size, 0, none⟩ (.string t_2_name)).setCell ⟨w.heap.size, 1, none⟩ (.int .i64 t_2_hue)).setCell ⟨w.heap.size, 2, none⟩ (.int .i64 t_2_width)).setCell ⟨w.heap.size, 3, none⟩ (.int .i64 t_2_dark)).setCell ⟨w.heap.size, 4, none⟩ (.int .i64 t_2_light) = x := ⟨_, rfl⟩
  have z0b3_3 := Ot_0.out.frozenAt 0
  have z1b3_3 := Ot_0.out.frozenAt 1
  have z2b3_3 := Ot_0.out.frozenAt 2
  have z3b3_3 := Ot_0.out.frozenAt 3
  have z4b3_3 := Ot_0.out.frozenAt 4
  have Sb3_3 := Lib.hid (own_stores [(0, .string t_2_name), (1, .int .i64 t_2_hue), (2, .int .i64 t_2_width), (3, .int .i64 t_2_dark), (4, .int .i64 t_2_light)] Ot_0.out)
  have Pb3_3 : Hid (wb3_3.ownsRow w.heap.size 54 5 (.slice (some ⟨w.heap.size, 0, none⟩) 1 1) 1 [.string t_2_name, .int .i64 t_2_hue, .int .i64 t_2_width, .int .i64 t_2_dark, .int .i64 t_2_light]) := Lib.hid (by rw [← hwb3_3]; exact Sb3_3.out.1)
  have Gb3_3 : Hid (wt_2.grownBy wb3_3 (Value.slice (some ⟨w.heap.size, 0, none⟩) 1 1).ownBlock) := Lib.hid (by rw [← hwb3_3]; exact Sb3_3.out.2)
  have HBwb3_3 := Lib.hid (HBwt_2.out.grown Gb3_3.out HBwt_2.out.size (fun q hq => (Ot_0.out.lt q hq).1))
  clear Sb3_3
  clear Ot_0 Gb3_3
  have kt_0_0__293 : wb3_3.cell? ⟨w.heap.size, 0, none⟩ = some (.string t_2_name) := Pb3_3.out.cells rfl 0 _ rfl
  have kt_0_1__294 : wb3_3.cell? ⟨w.heap.size, 1, none⟩ = some (.int .i64 t_2_hue) := Pb3_3.out.cells rfl 1 _ rfl
  have kt_0_2__295 : wb3_3.cell? ⟨w.heap.size, 2, none⟩ = some (.int .i64 t_2_width) := Pb3_3.out.cells rfl 2 _ rfl
  have kt_0_3__296 : wb3_3.cell? ⟨w.heap.size, 3, none⟩ = some (.int .i64 t_2_dark) := Pb3_3.out.cells rfl 3 _ rfl
  have kt_0_4__297 : wb3_3.cell? ⟨w.heap.size, 4, none⟩ = some (.int .i64 t_2_light) := Pb3_3.out.cells rfl 4 _ rfl
  cases ret_hid H
  go_wp2_with fail
  (try simp only [Exit.inBlock, Exit.then])
  refine bodyPost_ret (v := .agg #[.string t_2_name, .int .i64 t_2_hue, .int .i64 t_2_width, .int .i64 t_2_dark, .int .i64 t_2_light]) ?hr_ ?hd_ ?_
  case hd_ => rfl
  case hr_ => simp [results, Tryd.results37, kt_0_0__293, kt_0_1__294, kt_0_2__295, kt_0_3__296, kt_0_4__297, go_sem]
  exact ⟨rfl, HBwb3_3.out⟩
end Go.Proofs.YtkinlkmmelkdnaaDoor.GsDrawColorsIn

/- loop.example/g01062/impl.ColorsIn as a plain function, and the contract of the program's: where the plain one has an answer, the program has it. Conditions: slices read as lists. -/
namespace Go.Proofs.YtkinlkmmelkdnaaDoor.GiColorsIn
set_option linter.unusedVariables false
set_option linter.unusedSimpArgs false
open Go.RowKit
open Go.Proofs.YtkinlkmmelkdnaaDoor.Rowed Go.Proofs.YtkinlkmmelkdnaaDoor.Turn Go.Proofs.YtkinlkmmelkdnaaDoor.Aid Go.Proofs.YtkinlkmmelkdnaaDoor.GoP Go.Proofs.YtkinlkmmelkdnaaDoor.GoM

def P (x : Go.Proofs.YtkinlkmmelkdnaaDoor.PShade.Shade) : Option (Int × Bool) :=
  unShade x fun (x_name : ByteArray) (x_hue : Int) (x_width : Int) (x_dark : Int) (x_light : Int) =>
  Option.bind (Go.Proofs.YtkinlkmmelkdnaaDoor.GiIsShade.P (Go.Proofs.YtkinlkmmelkdnaaDoor.PShade.Shade.mk x_name x_hue x_width x_dark x_light)) fun (t_4 : Bool) =>
  letK (!t_4) fun (t_5 : Bool) =>
  iteK t_5
  (some (0, false))
  (letK (IntKind.i64.wrap (2 * x_width)) fun (t_10 : Int) =>
  letK (IntKind.i64.wrap (t_10 + 1)) fun (t_11 : Int) =>
  letK (IntKind.i64.wrap (x_light - x_dark)) fun (t_16 : Int) =>
  letK (IntKind.i64.wrap (t_16 + 1)) fun (t_17 : Int) =>
  letK (IntKind.i64.wrap (t_11 * t_17)) fun (t_18 : Int) =>
  some (t_18, true))

set_option maxRecDepth 100000 in
set_option maxHeartbeats 2000000 in
theorem C (x : Go.Proofs.YtkinlkmmelkdnaaDoor.PShade.Shade)   (w : World)   {r0 : Int} {r1 : Bool} (H : Hid (P x = some (r0, r1))) :
    Calls Tryd.prog 38 #[x.val] w (Gives (.tuple #[.int .i64 r0, .bool r1]) w) := by
  have HB := Lib.hid (Below.refl w.heap.size w)
  unfold P at H
  obtain ⟨x_name, x_hue, x_width, x_dark, x_light⟩ := x
  replace H := unShade_hid H
  unfold Go.Proofs.YtkinlkmmelkdnaaDoor.PShade.Shade.val
  go_enter Tryd.func38, Tryd.ntmps38
  obtain ⟨w_x_0, hw_x_0⟩ : ∃ x, w.alloc (.cells #[.string x_name, .int .i64 x_hue, .int .i64 x_width, .int .i64 x_dark, .int .i64 x_light] 54) = x := ⟨_, rfl⟩
  have bw_x_0 : Below w.heap.size w w_x_0 := by rw [← hw_x_0]; exact (Below.refl _ _).alloc (Nat.le_refl _) _
  have HBw_x_0 := Lib.hid (Below.step HB.out bw_x_0)
  clear bw_x_0
  have kx_0_0 : w_x_0.cell? ⟨w.heap.size, 0, none⟩ = some (.string x_name) := by rw [← hw_x_0]; exact box_new _ _ _ 0 _ rfl
  have kx_0_1 : w_x_0.cell? ⟨w.heap.size, 1, none⟩ = some (.int .i64 x_hue) := by rw [← hw_x_0]; exact box_new _ _ _ 1 _ rfl
  have kx_0_2 : w_x_0.cell? ⟨w.heap.size, 2, none⟩ = some (.int .i64 x_width) := by rw [← hw_x_0]; exact box_new _ _ _ 2 _ rfl
  have kx_0_3 : w_x_0.cell? ⟨w.heap.size, 3, none⟩ = some (.int .i64 x_dark) := by rw [← hw_x_0]; exact box_new _ _ _ 3 _ rfl
  have kx_0_4 : w_x_0.cell? ⟨w.heap.size, 4, none⟩ = some (.int .i64 x_light) := by rw [← hw_x_0]; exact box_new _ _ _ 4 _ rfl
  replace H := bind_hid H
  obtain ⟨t_4, qt_4, H⟩ := H
  go_wp2_with fail
  go_at_call 91
  refine (Go.Proofs.YtkinlkmmelkdnaaDoor.GiIsShade.C ((Go.Proofs.YtkinlkmmelkdnaaDoor.PShade.Shade.mk x_name x_hue x_width x_dark x_light))  _    qt_4).mono ?_
  rintro e_t_4 wt_4 ⟨rfl, bt_4⟩
  have HBwt_4 := Lib.hid (Below.step HBw_x_0.out bt_4)
  replace kx_0_0 := cell_below bt_4 kx_0_0
  replace kx_0_1 := cell_below bt_4 kx_0_1
  replace kx_0_2 := cell_below bt_4 kx_0_2
  replace kx_0_3 := cell_below bt_4 kx_0_3
  replace kx_0_4 := cell_below bt_4 kx_0_4
  clear bt_4
  cases t_4 with
  | false =>
    replace H := let_hid H
    obtain ⟨t_5, ht_5, H⟩ := H
    obtain rfl : t_5 = true := ht_5.symm
    replace H := ite_t H
    cases ret_hid H
    go_wp2_with fail
    go_ret2
    exact ⟨rfl, HBwt_4.out⟩
  | true =>
    replace H := let_hid H
    obtain ⟨t_5, ht_5, H⟩ := H
    obtain rfl : t_5 = false := ht_5.symm
    replace H := ite_f H
    replace H := let_hid H
    obtain ⟨t_10, ht_10, H⟩ := H
    replace H := let_hid H
    obtain ⟨t_11, ht_11, H⟩ := H
    replace H := let_hid H
    obtain ⟨t_16, ht_16, H⟩ := H
    replace H := let_hid H
    obtain ⟨t_17, ht_17, H⟩ := H
    replace H := let_hid H
    obtain ⟨t_18, ht_18, H⟩ := H
    cases ret_hid H
    go_wp2_with fail
    go_ret2
    exact ⟨rfl, HBwt_4.out⟩
end Go.Proofs.YtkinlkmmelkdnaaDoor.GiColorsIn

/- loop.example/g01062/spec.ColorsIn as a plain function, and the contract of the program's: where the plain one has an answer, the program has it. Conditions: slices read as lists. -/
namespace Go.Proofs.YtkinlkmmelkdnaaDoor.GsColorsIn
set_option linter.unusedVariables false
set_option linter.unusedSimpArgs false
open Go.RowKit
open Go.Proofs.YtkinlkmmelkdnaaDoor.Rowed Go.Proofs.YtkinlkmmelkdnaaDoor.Turn Go.Proofs.YtkinlkmmelkdnaaDoor.Aid Go.Proofs.YtkinlkmmelkdnaaDoor.GoP Go.Proofs.YtkinlkmmelkdnaaDoor.GoM

def P (x : Go.Proofs.YtkinlkmmelkdnaaDoor.PShade.Shade) : Option (Int × Bool) :=
  unShade x fun (x_name : ByteArray) (x_hue : Int) (x_width : Int) (x_dark : Int) (x_light : Int) =>
  Option.bind (Go.Proofs.YtkinlkmmelkdnaaDoor.GsL7One.P (Go.Proofs.YtkinlkmmelkdnaaDoor.PShade.Shade.mk x_name x_hue x_width x_dark x_light)) fun (t_4 : Bool) =>
  letK (!t_4) fun (t_5 : Bool) =>
  iteK t_5
  (some (0, false))
  (letK (IntKind.i64.wrap (2 * x_width)) fun (t_10 : Int) =>
  letK (IntKind.i64.wrap (t_10 + 1)) fun (t_11 : Int) =>
  letK (IntKind.i64.wrap (x_light - x_dark)) fun (t_16 : Int) =>
  letK (IntKind.i64.wrap (t_16 + 1)) fun (t_17 : Int) =>
  letK (IntKind.i64.wrap (t_11 * t_17)) fun (t_18 : Int) =>
  some (t_18, true))

set_option maxRecDepth 100000 in
set_option maxHeartbeats 2000000 in
theorem C (x : Go.Proofs.YtkinlkmmelkdnaaDoor.PShade.Shade)   (w : World)   {r0 : Int} {r1 : Bool} (H : Hid (P x = some (r0, r1))) :
    Calls Tryd.prog 39 #[x.val] w (Gives (.tuple #[.int .i64 r0, .bool r1]) w) := by
  have HB := Lib.hid (Below.refl w.heap.size w)
  unfold P at H
  obtain ⟨x_name, x_hue, x_width, x_dark, x_light⟩ := x
  replace H := unShade_hid H
  unfold Go.Proofs.YtkinlkmmelkdnaaDoor.PShade.Shade.val
  go_enter Tryd.func39, Tryd.ntmps39
  obtain ⟨w_x_0, hw_x_0⟩ : ∃ x, w.alloc (.cells #[.string x_name, .int .i64 x_hue, .int .i64 x_width, .int .i64 x_dark, .int .i64 x_light] 54) = x := ⟨_, rfl⟩
  have bw_x_0 : Below w.heap.size w w_x_0 := by rw [← hw_x_0]; exact (Below.refl _ _).alloc (Nat.le_refl _) _
  have HBw_x_0 := Lib.hid (Below.step HB.out bw_x_0)
  clear bw_x_0
  have kx_0_0 : w_x_0.cell? ⟨w.heap.size, 0, none⟩ = some (.string x_name) := by rw [← hw_x_0]; exact box_new _ _ _ 0 _ rfl
  have kx_0_1 : w_x_0.cell? ⟨w.heap.size, 1, none⟩ = some (.int .i64 x_hue) := by rw [← hw_x_0]; exact box_new _ _ _ 1 _ rfl
  have kx_0_2 : w_x_0.cell? ⟨w.heap.size, 2, none⟩ = some (.int .i64 x_width) := by rw [← hw_x_0]; exact box_new _ _ _ 2 _ rfl
  have kx_0_3 : w_x_0.cell? ⟨w.heap.size, 3, none⟩ = some (.int .i64 x_dark) := by rw [← hw_x_0]; exact box_new _ _ _ 3 _ rfl
  have kx_0_4 : w_x_0.cell? ⟨w.heap.size, 4, none⟩ = some (.int .i64 x_light) := by rw [← hw_x_0]; exact box_new _ _ _ 4 _ rfl
  replace H := bind_hid H
  obtain ⟨t_4, qt_4, H⟩ := H
  go_wp2_with fail
  go_at_call 92
  refine (Go.Proofs.YtkinlkmmelkdnaaDoor.GsL7One.C ((Go.Proofs.YtkinlkmmelkdnaaDoor.PShade.Shade.mk x_name x_hue x_width x_dark x_light))  _    qt_4).mono ?_
  rintro e_t_4 wt_4 ⟨rfl, bt_4⟩
  have HBwt_4 := Lib.hid (Below.step HBw_x_0.out bt_4)
  replace kx_0_0 := cell_below bt_4 kx_0_0
  replace kx_0_1 := cell_below bt_4 kx_0_1
  replace kx_0_2 := cell_below bt_4 kx_0_2
  replace kx_0_3 := cell_below bt_4 kx_0_3
  replace kx_0_4 := cell_below bt_4 kx_0_4
  clear bt_4
  cases t_4 with
  | false =>
    replace H := let_hid H
    obtain ⟨t_5, ht_5, H⟩ := H
    obtain rfl : t_5 = true := ht_5.symm
    replace H := ite_t H
    cases ret_hid H
    go_wp2_with fail
    go_ret2
    exact ⟨rfl, HBwt_4.out⟩
  | true =>
    replace H := let_hid H
    obtain ⟨t_5, ht_5, H⟩ := H
    obtain rfl : t_5 = false := ht_5.symm
    replace H := ite_f H
    replace H := let_hid H
    obtain ⟨t_10, ht_10, H⟩ := H
    replace H := let_hid H
    obtain ⟨t_11, ht_11, H⟩ := H
    replace H := let_hid H
    obtain ⟨t_16, ht_16, H⟩ := H
    replace H := let_hid H
    obtain ⟨t_17, ht_17, H⟩ := H
    replace H := let_hid H
    obtain ⟨t_18, ht_18, H⟩ := H
    cases ret_hid H
    go_wp2_with fail
    go_ret2
    exact ⟨rfl, HBwt_4.out⟩
end Go.Proofs.YtkinlkmmelkdnaaDoor.GsColorsIn

/- strconv.Itoa as a plain function; the contract of the program's. Condition: the library's table of powers of ten is as the library lays it. -/
namespace Go.Proofs.YtkinlkmmelkdnaaDoor.GxStrconvItoa
set_option linter.unusedVariables false
open Go.RowKit
open Go.Proofs.YtkinlkmmelkdnaaDoor.Turn Go.Proofs.YtkinlkmmelkdnaaDoor.Tab
def P (n : Int) : Option ByteArray := if -9223372036854775808 ≤ n ∧ n ≤ 9223372036854775807 then some ⟨(Lib.itoa n).toArray⟩ else none
theorem C (n : Int) (w : World) (HT : Hid (Tab w)) {r : ByteArray} (H : Hid (P n = some r)) : Calls Tryd.prog 44 #[.int .i64 n] w (Gives (.string r) w) := by
  have h : P n = some r := H
  unfold P at h
  by_cases hk : -9223372036854775808 ≤ n ∧ n ≤ 9223372036854775807
  · rw [if_pos hk] at h
    obtain rfl := Option.some.inj h
    exact itoa_any n hk.1 hk.2 w HT
  · rw [if_neg hk] at h; simp at h
end Go.Proofs.YtkinlkmmelkdnaaDoor.GxStrconvItoa

/- loop.example/g01062/impl.ShadeText as a plain function, and the contract of the program's: where the plain one has an answer, the program has it. Conditions: slices read as lists. -/
namespace Go.Proofs.YtkinlkmmelkdnaaDoor.GiShadeText
set_option linter.unusedVariables false
set_option linter.unusedSimpArgs false
open Go.RowKit
open Go.Proofs.YtkinlkmmelkdnaaDoor.Rowed Go.Proofs.YtkinlkmmelkdnaaDoor.Turn Go.Proofs.YtkinlkmmelkdnaaDoor.Aid Go.Proofs.YtkinlkmmelkdnaaDoor.GoP Go.Proofs.YtkinlkmmelkdnaaDoor.GoM Go.Proofs.YtkinlkmmelkdnaaDoor.Tab

def P (x : Go.Proofs.YtkinlkmmelkdnaaDoor.PShade.Shade) : Option (ByteArray × Bool) :=
  unShade x fun (x_name : ByteArray) (x_hue : Int) (x_width : Int) (x_dark : Int) (x_light : Int) =>
  Option.bind (Go.Proofs.YtkinlkmmelkdnaaDoor.GiIsShade.P (Go.Proofs.YtkinlkmmelkdnaaDoor.PShade.Shade.mk x_name x_hue x_width x_dark x_light)) fun (t_4 : Bool) =>
  letK (!t_4) fun (t_5 : Bool) =>
  iteK t_5
  (some ((⟨#[]⟩ : ByteArray), false))
  (guardK (x_name.size + (⟨#[32]⟩ : ByteArray).size ≤ maxLen) <|
  letK (x_name ++ (⟨#[32]⟩ : ByteArray)) fun (t_10 : ByteArray) =>
  Option.bind (Go.Proofs.YtkinlkmmelkdnaaDoor.GxStrconvItoa.P x_hue) fun (t_13 : ByteArray) =>
  guardK (t_10.size + t_13.size ≤ maxLen) <|
  letK (t_10 ++ t_13) fun (t_14 : ByteArray) =>
  guardK (t_14.size + (⟨#[43, 45]⟩ : ByteArray).size ≤ maxLen) <|
  letK (t_14 ++ (⟨#[43, 45]⟩ : ByteArray)) fun (t_15 : ByteArray) =>
  Option.bind (Go.Proofs.YtkinlkmmelkdnaaDoor.GxStrconvItoa.P x_width) fun (t_18 : ByteArray) =>
  guardK (t_15.size + t_18.size ≤ maxLen) <|
  letK (t_15 ++ t_18) fun (t_19 : ByteArray) =>
  guardK (t_19.size + (⟨#[32]⟩ : ByteArray).size ≤ maxLen) <|
  letK (t_19 ++ (⟨#[32]⟩ : ByteArray)) fun (t_20 : ByteArray) =>
  Option.bind (Go.Proofs.YtkinlkmmelkdnaaDoor.GxStrconvItoa.P x_dark) fun (t_23 : ByteArray) =>
  guardK (t_20.size + t_23.size ≤ maxLen) <|
  letK (t_20 ++ t_23) fun (t_24 : ByteArray) =>
  guardK (t_24.size + (⟨#[46, 46]⟩ : ByteArray).size ≤ maxLen) <|
  letK (t_24 ++ (⟨#[46, 46]⟩ : ByteArray)) fun (t_25 : ByteArray) =>
  Option.bind (Go.Proofs.YtkinlkmmelkdnaaDoor.GxStrconvItoa.P x_light) fun (t_28 : ByteArray) =>
  guardK (t_25.size + t_28.size ≤ maxLen) <|
  letK (t_25 ++ t_28) fun (t_29 : ByteArray) =>
  some (t_29, true))

set_option maxRecDepth 100000 in
set_option maxHeartbeats 2000000 in
theorem C (x : Go.Proofs.YtkinlkmmelkdnaaDoor.PShade.Shade)   (w : World) (HT : Hid (Tab w))   {r0 : ByteArray} {r1 : Bool} (H : Hid (P x = some (r0, r1))) :
    Calls Tryd.prog 40 #[x.val] w (Gives (.tuple #[.string r0, .bool r1]) w) := by
  have HB := Lib.hid (Below.refl w.heap.size w)
  unfold P at H
  obtain ⟨x_name, x_hue, x_width, x_dark, x_light⟩ := x
  replace H := unShade_hid H
  unfold Go.Proofs.YtkinlkmmelkdnaaDoor.PShade.Shade.val
  go_enter Tryd.func40, Tryd.ntmps40
  obtain ⟨w_x_0, hw_x_0⟩ : ∃ x, w.alloc (.cells #[.string x_name, .int .i64 x_hue, .int .i64 x_width, .int .i64 x_dark, .int .i64 x_light] 54) = x := ⟨_, rfl⟩
  have bw_x_0 : Below w.heap.size w w_x_0 := by rw [← hw_x_0]; exact (Below.refl _ _).alloc (Nat.le_refl _) _
  have HBw_x_0 := Lib.hid (Below.step HB.out bw_x_0)
  clear bw_x_0
  have kx_0_0 : w_x_0.cell? ⟨w.heap.size, 0, none⟩ = some (.string x_name) := by rw [← hw_x_0]; exact box_new _ _ _ 0 _ rfl
  have kx_0_1 : w_x_0.cell? ⟨w.heap.size, 1, none⟩ = some (.int .i64 x_hue) := by rw [← hw_x_0]; exact box_new _ _ _ 1 _ rfl
  have kx_0_2 : w_x_0.cell? ⟨w.heap.size, 2, none⟩ = some (.int .i64 x_width) := by rw [← hw_x_0]; exact box_new _ _ _ 2 _ rfl
  have kx_0_3 : w_x_0.cell? ⟨w.heap.size, 3, none⟩ = some (.int .i64 x_dark) := by rw [← hw_x_0]; exact box_new _ _ _ 3 _ rfl
  have kx_0_4 : w_x_0.cell? ⟨w.heap.size, 4, none⟩ = some (.int .i64 x_light) := by rw [← hw_x_0]; exact box_new _ _ _ 4 _ rfl
  replace H := bind_hid H
  obtain ⟨t_4, qt_4, H⟩ := H
  go_wp2_with fail
  go_at_call 91
  refine (Go.Proofs.YtkinlkmmelkdnaaDoor.GiIsShade.C ((Go.Proofs.YtkinlkmmelkdnaaDoor.PShade.Shade.mk x_name x_hue x_width x_dark x_light))  _    qt_4).mono ?_
  rintro e_t_4 wt_4 ⟨rfl, bt_4⟩
  have HBwt_4 := Lib.hid (Below.step HBw_x_0.out bt_4)
  replace kx_0_0 := cell_below bt_4 kx_0_0
  replace kx_0_1 := cell_below bt_4 kx_0_1
  replace kx_0_2 := cell_below bt_4 kx_0_2
  replace kx_0_3 := cell_below bt_4 kx_0_3
  replace kx_0_4 := cell_below bt_4 kx_0_4
  clear bt_4
  cases t_4 with
  | false =>
    replace H := let_hid H
    obtain ⟨t_5, ht_5, H⟩ := H
    obtain rfl : t_5 = true := ht_5.symm
    replace H := ite_t H
    cases ret_hid H
    go_wp2_with fail
    go_ret2
    exact ⟨rfl, HBwt_4.out⟩
  | true =>
    replace H := let_hid H
    obtain ⟨t_5, ht_5, H⟩ := H
    obtain rfl : t_5 = false := ht_5.symm
    replace H := ite_f H
    go_wp2_with fail
    have Hkx_0_0 := Lib.hid kx_0_0
    replace kx_0_0 := cell_regrown kx_0_0
    have Hkx_0_1 := Lib.hid kx_0_1
    replace kx_0_1 := cell_regrown kx_0_1
    have Hkx_0_2 := Lib.hid kx_0_2
    replace kx_0_2 := cell_regrown kx_0_2
    have Hkx_0_3 := Lib.hid kx_0_3
    replace kx_0_3 := cell_regrown kx_0_3
    have Hkx_0_4 := Lib.hid kx_0_4
    replace kx_0_4 := cell_regrown kx_0_4
    replace H := guard_hid H
    obtain ⟨hl_t_10, H⟩ := H
    replace H := let_hid H
    obtain ⟨t_10, ht_10, H⟩ := H
    have ct_10 := cat_rule (P := Tryd.prog) ht_10 hl_t_10
    clear hl_t_10
    have hht_10 := Lib.hid ht_10
    clear ht_10
    replace H := bind_hid H
    obtain ⟨t_13, qt_13, H⟩ := H
    have nt_13 : ∀ d os, Calls Tryd.prog 44 #[.int .i64 x_hue] (Go.Sort.grow (redrawn wt_4 d) os) fun e w'' => e = .returned (.string t_13) ∧ ∃ p : Regrown, w'' = Go.Sort.grow (redrawn wt_4 p.d) p.os := fun d os => Calls.regrown_of (Go.Proofs.YtkinlkmmelkdnaaDoor.GxStrconvItoa.C (x_hue)  _ (tab_below (below_regrown _ _ _) (tab_below HBwt_4.out HT))   qt_13)
    replace H := guard_hid H
    obtain ⟨hl_t_14, H⟩ := H
    replace H := let_hid H
    obtain ⟨t_14, ht_14, H⟩ := H
    have ct_14 := cat_rule (P := Tryd.prog) ht_14 hl_t_14
    clear hl_t_14
    have hht_14 := Lib.hid ht_14
    clear ht_14
    replace H := guard_hid H
    obtain ⟨hl_t_15, H⟩ := H
    replace H := let_hid H
    obtain ⟨t_15, ht_15, H⟩ := H
    have ct_15 := cat_rule (P := Tryd.prog) ht_15 hl_t_15
    clear hl_t_15
    have hht_15 := Lib.hid ht_15
    clear ht_15
    replace H := bind_hid H
    obtain ⟨t_18, qt_18, H⟩ := H
    have nt_18 : ∀ d os, Calls Tryd.prog 44 #[.int .i64 x_width] (Go.Sort.grow (redrawn wt_4 d) os) fun e w'' => e = .returned (.string t_18) ∧ ∃ p : Regrown, w'' = Go.Sort.grow (redrawn wt_4 p.d) p.os := fun d os => Calls.regrown_of (Go.Proofs.YtkinlkmmelkdnaaDoor.GxStrconvItoa.C (x_width)  _ (tab_below (below_regrown _ _ _) (tab_below HBwt_4.out HT))   qt_18)
    replace H := guard_hid H
    obtain ⟨hl_t_19, H⟩ := H
    replace H := let_hid H
    obtain ⟨t_19, ht_19, H⟩ := H
    have ct_19 := cat_rule (P := Tryd.prog) ht_19 hl_t_19
    clear hl_t_19
    have hht_19 := Lib.hid ht_19
    clear ht_19
    replace H := guard_hid H
    obtain ⟨hl_t_20, H⟩ := H
    replace H := let_hid H
    obtain ⟨t_20, ht_20, H⟩ := H
    have ct_20 := cat_rule (P := Tryd.prog) ht_20 hl_t_20
    clear hl_t_20
    have hht_20 := Lib.hid ht_20
    clear ht_20
    replace H := bind_hid H
    obtain ⟨t_23, qt_23, H⟩ := H
    have nt_23 : ∀ d os, Calls Tryd.prog 44 #[.int .i64 x_dark] (Go.Sort.grow (redrawn wt_4 d) os) fun e w'' => e = .returned (.string t_23) ∧ ∃ p : Regrown, w'' = Go.Sort.grow (redrawn wt_4 p.d) p.os := fun d os => Calls.regrown_of (Go.Proofs.YtkinlkmmelkdnaaDoor.GxStrconvItoa.C (x_dark)  _ (tab_below (below_regrown _ _ _) (tab_below HBwt_4.out HT))   qt_23)
    replace H := guard_hid H
    obtain ⟨hl_t_24, H⟩ := H
    replace H := let_hid H
    obtain ⟨t_24, ht_24, H⟩ := H
    have ct_24 := cat_rule (P := Tryd.prog) ht_24 hl_t_24
    clear hl_t_24
    have hht_24 := Lib.hid ht_24
    clear ht_24
    replace H := guard_hid H
    obtain ⟨hl_t_25, H⟩ := H
    replace H := let_hid H
    obtain ⟨t_25, ht_25, H⟩ := H
    have ct_25 := cat_rule (P := Tryd.prog) ht_25 hl_t_25
    clear hl_t_25
    have hht_25 := Lib.hid ht_25
    clear ht_25
    replace H := bind_hid H
    obtain ⟨t_28, qt_28, H⟩ := H
    have nt_28 : ∀ d os, Calls Tryd.prog 44 #[.int .i64 x_light] (Go.Sort.grow (redrawn wt_4 d) os) fun e w'' => e = .returned (.string t_28) ∧ ∃ p : Regrown, w'' = Go.Sort.grow (redrawn wt_4 p.d) p.os := fun d os => Calls.regrown_of (Go.Proofs.YtkinlkmmelkdnaaDoor.GxStrconvItoa.C (x_light)  _ (tab_below (below_regrown _ _ _) (tab_below HBwt_4.out HT))   qt_28)
    replace H := guard_hid H
    obtain ⟨hl_t_29, H⟩ := H
    replace H := let_hid H
    obtain ⟨t_29, ht_29, H⟩ := H
    have ct_29 := cat_rule (P := Tryd.prog) ht_29 hl_t_29
    clear hl_t_29
    have hht_29 := Lib.hid ht_29
    clear ht_29
    refine wp_region_quiet_below (by kernel_rfl) (by kernel_rfl) ?_
    repeat (go_big_quiet_step (first | (go_at_call 44; with_reducible exact nt_13 _ _) | (go_at_call 44; with_reducible exact nt_18 _ _) | (go_at_call 44; with_reducible exact nt_23 _ _) | (go_at_call 44; with_reducible exact nt_28 _ _) | (go_at_call 44; exact nt_13 _ _) | (go_at_call 44; exact nt_18 _ _) | (go_at_call 44; exact nt_23 _ _) | (go_at_call 44; exact nt_28 _ _)))
    refine wpQuiet_nil ?_
    intro Y3 hY3
    replace hY3 := below_class hY3
    clear nt_13 nt_18 nt_23 nt_28
    replace kx_0_0 := Hkx_0_0.out
    clear Hkx_0_0
    replace kx_0_1 := Hkx_0_1.out
    clear Hkx_0_1
    replace kx_0_2 := Hkx_0_2.out
    clear Hkx_0_2
    replace kx_0_3 := Hkx_0_3.out
    clear Hkx_0_3
    replace kx_0_4 := Hkx_0_4.out
    clear Hkx_0_4
    have HBY3 := Lib.hid (Below.step HBwt_4.out hY3)
    replace kx_0_0 := cell_below hY3 kx_0_0
    replace kx_0_1 := cell_below hY3 kx_0_1
    replace kx_0_2 := cell_below hY3 kx_0_2
    replace kx_0_3 := cell_below hY3 kx_0_3
    replace kx_0_4 := cell_below hY3 kx_0_4
    clear hY3
    cases ret_hid H
    go_wp2_with fail
    go_ret2
    exact ⟨rfl, HBY3.out⟩
end Go.Proofs.YtkinlkmmelkdnaaDoor.GiShadeText

/- The contracts of spec.l1In and spec.l1Num: whether a number lies within bounds, and its decimal numeral. Condition: the number is an int, from -2^62 on for l1Num. -/
namespace Go.Proofs.YtkinlkmmelkdnaaDoor.Num
open Go.RowKit

theorem l1In_yes (x a b : Int) (w : World) (h1 : a ≤ x) (h2 : x ≤ b) :
    Calls Tryd.prog 86 #[.int .i64 x, .int .i64 a, .int .i64 b] w fun e w' => e = .returned (.bool true) ∧ w = w' := by
  go_enter Tryd.func86, Tryd.ntmps86
  go_wp2
  go_ret
  exact ⟨rfl, rfl⟩

theorem l1In_no (x a b : Int) (w : World) (h : x < a ∨ b < x) :
    Calls Tryd.prog 86 #[.int .i64 x, .int .i64 a, .int .i64 b] w fun e w' => e = .returned (.bool false) ∧ w = w' := by
  by_cases h1 : a ≤ x
  · have h2 : b < x := by omega
    clear h
    go_enter Tryd.func86, Tryd.ntmps86
    go_wp2
    go_ret
    exact ⟨by simp; omega, rfl⟩
  · clear h
    go_enter Tryd.func86, Tryd.ntmps86
    go_wp2
    go_ret
    exact ⟨rfl, rfl⟩

theorem digits10 (n : Int) (_h0 : 0 ≤ n) (h : n < 10) : (ByteArray.mk #[48, 49, 50, 51, 52, 53, 54, 55, 56, 57]).extract n.toNat (n + 1).toNat = ByteArray.mk #[UInt8.ofNat (48 + n.toNat)] := by
  obtain rfl | rfl | rfl | rfl | rfl | rfl | rfl | rfl | rfl | rfl : n = 0 ∨ n = 1 ∨ n = 2 ∨ n = 3 ∨ n = 4 ∨ n = 5 ∨ n = 6 ∨ n = 7 ∨ n = 8 ∨ n = 9 := by omega
  all_goals rfl

theorem decDigits_step (n : Int) (_h0 : 0 ≤ n) (h : ¬ n < 10) : Lib.decDigits n.toNat = Lib.decDigits (n / 10).toNat ++ [UInt8.ofNat (48 + (n % 10).toNat)] := by
  rw [Lib.decDigits, dif_neg (by omega)]
  have e1 : n.toNat / 10 = (n / 10).toNat := by omega
  have e2 : n.toNat % 10 = (n % 10).toNat := by omega
  rw [e1, e2]

theorem add_digit (n : Int) (h0 : 0 ≤ n) (h : ¬ n < 10) (hb : n ≤ 4611686018427387904) (W : World) :
    (Op.stringOp .add ⟨(Lib.decDigits (n / 10).toNat).toArray⟩ ((ByteArray.mk #[48, 49, 50, 51, 52, 53, 54, 55, 56, 57]).extract (n % 10).toNat (n % 10 + 1).toNat)).run Tryd.prog W
      = .ok (.string ⟨(Lib.decDigits n.toNat).toArray⟩) W := by
  have hl : Lib.nDigits (n / 10).toNat ≤ 20 := Lib.nDigits_le20 _ (by omega)
  rw [digits10 (n % 10) (by omega) (by omega)]
  rw [run_string_add_sum]
  · rw [decDigits_step n h0 h]
    congr 2
  · have e1 : (ByteArray.mk (Lib.decDigits (n / 10).toNat).toArray).size = Lib.nDigits (n / 10).toNat := by
      rw [← Lib.decDigits_length]; rfl
    rw [e1]
    show Lib.nDigits (n / 10).toNat + 1 ≤ _
    omega

set_option maxHeartbeats 800000 in
theorem l1Num_pos (k : Nat) : ∀ (n : Int) (w : World), n < k → 0 ≤ n → n ≤ 4611686018427387904 →
    Calls Tryd.prog 43 #[.int .i64 n] w fun e w' => e = .returned (.string ⟨(Lib.decDigits n.toNat).toArray⟩) ∧ ∃ m, w' = w.drewN m := by
  induction k with
  | zero => intro n w hk h0 _; omega
  | succ k ih =>
    intro n w hk h0 hb
    by_cases h10 : n < 10
    · have HD := Lib.hid (digits10 n h0 h10)
      go_enter Tryd.func43, Tryd.ntmps43
      go_wp2_with fail
      go_ret
      refine ⟨?_, 0, rfl⟩
      rw [Lib.decDigits_one (by omega)]
      simp only [HD.out]
      rfl
    · have hadd := add_digit n h0 h10 hb
      go_enter Tryd.func43, Tryd.ntmps43
      go_wp2_with fail
      have q1 : IntKind.i64.wrap (n.tdiv 10) = n / 10 := by rw [Int.tdiv_eq_ediv_of_nonneg h0]; exact IntWalk.i64_in _ (by omega)
      have q2 : n.tmod 10 = n % 10 := Int.tmod_eq_emod_of_nonneg h0
      have q3 : IntKind.i64.wrap (n % 10) = n % 10 := IntWalk.i64_in _ (by omega)
      have q4 : IntKind.i64.wrap (n % 10 + 1) = n % 10 + 1 := IntWalk.i64_in _ (by omega)
      have b1 : 0 ≤ n % 10 := by omega
      have b2 : n % 10 ≤ n % 10 + 1 := by omega
      have b3 : n % 10 + 1 ≤ 10 := by omega
      have b4 : 0 ≤ n % 10 + 1 := by omega
      have L1 : n / 10 < (k : Int) := by omega
      have L2 : 0 ≤ n / 10 := by omega
      have L3 : n / 10 ≤ 4611686018427387904 := by omega
      go_quiet ((go_at_call 43; exact Calls.quiet_of (ih (n / 10) _ L1 L2 L3)))
      go_wp2_with fail
      go_ret
      exact ⟨rfl, _, rfl⟩

theorem add_minus (n : Int) (h : n < 0) (hb : -4611686018427387904 ≤ n) (W : World) :
    (Op.stringOp .add ⟨#[45]⟩ ⟨(Lib.decDigits (-n).toNat).toArray⟩).run Tryd.prog W = .ok (.string ⟨(Lib.itoa n).toArray⟩) W := by
  have hl : Lib.nDigits (-n).toNat ≤ 20 := Lib.nDigits_le20 _ (by omega)
  have e1 : (ByteArray.mk (Lib.decDigits (-n).toNat).toArray).size = Lib.nDigits (-n).toNat := by
    rw [← Lib.decDigits_length]; rfl
  have e2 : (-n).toNat = n.natAbs := by omega
  rw [run_string_add_sum]
  · unfold Lib.itoa
    rw [if_pos h, e2]
    congr 2
  · rw [e1]
    show 1 + _ ≤ _
    omega

/-- spec.l1Num, for every number that is not too far out -/
theorem l1Num_any (n : Int) (w : World) (h1 : -4611686018427387904 ≤ n) (h2 : n ≤ 4611686018427387904) :
    Calls Tryd.prog 43 #[.int .i64 n] w fun e w' => e = .returned (.string ⟨(Lib.itoa n).toArray⟩) ∧ ∃ m, w' = w.drewN m := by
  by_cases h : n < 0
  · have hadd := add_minus n h h1
    have L1 : -n < ((-n).toNat + 1 : Nat) := by omega
    go_enter Tryd.func43, Tryd.ntmps43
    go_wp2_with (go_at_call 43; refine (l1Num_pos ((-n).toNat + 1) (-n) _ L1 (by omega) (by omega)).mono ?_; rintro e w' ⟨rfl, m, rfl⟩)
    go_ret
    exact ⟨rfl, _, rfl⟩
  · refine (l1Num_pos (n.toNat + 1) n w (by omega) (by omega) h2).mono ?_
    rintro e w' ⟨rfl, m, rfl⟩
    refine ⟨?_, m, rfl⟩
    unfold Lib.itoa
    rw [if_neg h]

end Go.Proofs.YtkinlkmmelkdnaaDoor.Num

/- spec.l1Num as a plain function, for numbers that are not too far out; the contract of the program's. No condition. -/
namespace Go.Proofs.YtkinlkmmelkdnaaDoor.GsL1Num
set_option linter.unusedVariables false
open Go.RowKit
open Go.Proofs.YtkinlkmmelkdnaaDoor.Turn
def P (n : Int) : Option ByteArray := if -4611686018427387904 ≤ n ∧ n ≤ 4611686018427387904 then some ⟨(Lib.itoa n).toArray⟩ else none
theorem C (n : Int) (w : World) {r : ByteArray} (H : Hid (P n = some r)) : Calls Tryd.prog 43 #[.int .i64 n] w (Gives (.string r) w) := by
  have h : P n = some r := H
  unfold P at h
  by_cases hk : -4611686018427387904 ≤ n ∧ n ≤ 4611686018427387904
  · rw [if_pos hk] at h
    obtain rfl := Option.some.inj h
    refine (Go.Proofs.YtkinlkmmelkdnaaDoor.Num.l1Num_any n w hk.1 hk.2).mono ?_
    rintro e w' ⟨rfl, m, rfl⟩
    exact ⟨rfl, Go.below_drewN (Below.refl _ _) m⟩
  · rw [if_neg hk] at h; simp at h
end Go.Proofs.YtkinlkmmelkdnaaDoor.GsL1Num

/- loop.example/g01062/spec.ShadeText as a plain function, and the contract of the program's: where the plain one has an answer, the program has it. Conditions: slices read as lists. -/
namespace Go.Proofs.YtkinlkmmelkdnaaDoor.GsShadeText
set_option linter.unusedVariables false
set_option linter.unusedSimpArgs false
open Go.RowKit
open Go.Proofs.YtkinlkmmelkdnaaDoor.Rowed Go.Proofs.YtkinlkmmelkdnaaDoor.Turn Go.Proofs.YtkinlkmmelkdnaaDoor.Aid Go.Proofs.YtkinlkmmelkdnaaDoor.GoP Go.Proofs.YtkinlkmmelkdnaaDoor.GoM

def P (x : Go.Proofs.YtkinlkmmelkdnaaDoor.PShade.Shade) : Option (ByteArray × Bool) :=
  unShade x fun (x_name : ByteArray) (x_hue : Int) (x_width : Int) (x_dark : Int) (x_light : Int) =>
  Option.bind (Go.Proofs.YtkinlkmmelkdnaaDoor.GsL7One.P (Go.Proofs.YtkinlkmmelkdnaaDoor.PShade.Shade.mk x_name x_hue x_width x_dark x_light)) fun (t_4 : Bool) =>
  letK (!t_4) fun (t_5 : Bool) =>
  iteK t_5
  (some ((⟨#[]⟩ : ByteArray), false))
  (guardK (x_name.size + (⟨#[32]⟩ : ByteArray).size ≤ maxLen) <|
  letK (x_name ++ (⟨#[32]⟩ : ByteArray)) fun (t_10 : ByteArray) =>
  Option.bind (Go.Proofs.YtkinlkmmelkdnaaDoor.GsL1Num.P x_hue) fun (t_13 : ByteArray) =>
  guardK (t_10.size + t_13.size ≤ maxLen) <|
  letK (t_10 ++ t_13) fun (t_14 : ByteArray) =>
  guardK (t_14.size + (⟨#[43, 45]⟩ : ByteArray).size ≤ maxLen) <|
  letK (t_14 ++ (⟨#[43, 45]⟩ : ByteArray)) fun (t_15 : ByteArray) =>
  Option.bind (Go.Proofs.YtkinlkmmelkdnaaDoor.GsL1Num.P x_width) fun (t_18 : ByteArray) =>
  guardK (t_15.size + t_18.size ≤ maxLen) <|
  letK (t_15 ++ t_18) fun (t_19 : ByteArray) =>
  guardK (t_19.size + (⟨#[32]⟩ : ByteArray).size ≤ maxLen) <|
  letK (t_19 ++ (⟨#[32]⟩ : ByteArray)) fun (t_20 : ByteArray) =>
  Option.bind (Go.Proofs.YtkinlkmmelkdnaaDoor.GsL1Num.P x_dark) fun (t_23 : ByteArray) =>
  guardK (t_20.size + t_23.size ≤ maxLen) <|
  letK (t_20 ++ t_23) fun (t_24 : ByteArray) =>
  guardK (t_24.size + (⟨#[46, 46]⟩ : ByteArray).size ≤ maxLen) <|
  letK (t_24 ++ (⟨#[46, 46]⟩ : ByteArray)) fun (t_25 : ByteArray) =>
  Option.bind (Go.Proofs.YtkinlkmmelkdnaaDoor.GsL1Num.P x_light) fun (t_28 : ByteArray) =>
  guardK (t_25.size + t_28.size ≤ maxLen) <|
  letK (t_25 ++ t_28) fun (t_29 : ByteArray) =>
  some (t_29, true))

set_option maxRecDepth 100000 in
set_option maxHeartbeats 2000000 in
theorem C (x : Go.Proofs.YtkinlkmmelkdnaaDoor.PShade.Shade)   (w : World)   {r0 : ByteArray} {r1 : Bool} (H : Hid (P x = some (r0, r1))) :
    Calls Tryd.prog 41 #[x.val] w (Gives (.tuple #[.string r0, .bool r1]) w) := by
  have HB := Lib.hid (Below.refl w.heap.size w)
  unfold P at H
  obtain ⟨x_name, x_hue, x_width, x_dark, x_light⟩ := x
  replace H := unShade_hid H
  unfold Go.Proofs.YtkinlkmmelkdnaaDoor.PShade.Shade.val
  go_enter Tryd.func41, Tryd.ntmps41
  obtain ⟨w_x_0, hw_x_0⟩ : ∃ x, w.alloc (.cells #[.string x_name, .int .i64 x_hue, .int .i64 x_width, .int .i64 x_dark, .int .i64 x_light] 54) = x := ⟨_, rfl⟩
  have bw_x_0 : Below w.heap.size w w_x_0 := by rw [← hw_x_0]; exact (Below.refl _ _).alloc (Nat.le_refl _) _
  have HBw_x_0 := Lib.hid (Below.step HB.out bw_x_0)
  clear bw_x_0
  have kx_0_0 : w_x_0.cell? ⟨w.heap.size, 0, none⟩ = some (.string x_name) := by rw [← hw_x_0]; exact box_new _ _ _ 0 _ rfl
  have kx_0_1 : w_x_0.cell? ⟨w.heap.size, 1, none⟩ = some (.int .i64 x_hue) := by rw [← hw_x_0]; exact box_new _ _ _ 1 _ rfl
  have kx_0_2 : w_x_0.cell? ⟨w.heap.size, 2, none⟩ = some (.int .i64 x_width) := by rw [← hw_x_0]; exact box_new _ _ _ 2 _ rfl
  have kx_0_3 : w_x_0.cell? ⟨w.heap.size, 3, none⟩ = some (.int .i64 x_dark) := by rw [← hw_x_0]; exact box_new _ _ _ 3 _ rfl
  have kx_0_4 : w_x_0.cell? ⟨w.heap.size, 4, none⟩ = some (.int .i64 x_light) := by rw [← hw_x_0]; exact box_new _ _ _ 4 _ rfl
  replace H := bind_hid H
  obtain ⟨t_4, qt_4, H⟩ := H
  go_wp2_with fail
  go_at_call 92
  refine (Go.Proofs.YtkinlkmmelkdnaaDoor.GsL7One.C ((Go.Proofs.YtkinlkmmelkdnaaDoor.PShade.Shade.mk x_name x_hue x_width x_dark x_light))  _    qt_4).mono ?_
  rintro e_t_4 wt_4 ⟨rfl, bt_4⟩
  have HBwt_4 := Lib.hid (Below.step HBw_x_0.out bt_4)
  replace kx_0_0 := cell_below bt_4 kx_0_0
  replace kx_0_1 := cell_below bt_4 kx_0_1
  replace kx_0_2 := cell_below bt_4 kx_0_2
  replace kx_0_3 := cell_below bt_4 kx_0_3
  replace kx_0_4 := cell_below bt_4 kx_0_4
  clear bt_4
  cases t_4 with
  | false =>
    replace H := let_hid H
    obtain ⟨t_5, ht_5, H⟩ := H
    obtain rfl : t_5 = true := ht_5.symm
    replace H := ite_t H
    cases ret_hid H
    go_wp2_with fail
    go_ret2
    exact ⟨rfl, HBwt_4.out⟩
  | true =>
    replace H := let_hid H
    obtain ⟨t_5, ht_5, H⟩ := H
    obtain rfl : t_5 = false := ht_5.symm
    replace H := ite_f H
    go_wp2_with fail
    have Hkx_0_0 := Lib.hid kx_0_0
    replace kx_0_0 := cell_regrown kx_0_0
    have Hkx_0_1 := Lib.hid kx_0_1
    replace kx_0_1 := cell_regrown kx_0_1
    have Hkx_0_2 := Lib.hid kx_0_2
    replace kx_0_2 := cell_regrown kx_0_2
    have Hkx_0_3 := Lib.hid kx_0_3
    replace kx_0_3 := cell_regrown kx_0_3
    have Hkx_0_4 := Lib.hid kx_0_4
    replace kx_0_4 := cell_regrown kx_0_4
    replace H := guard_hid H
    obtain ⟨hl_t_10, H⟩ := H
    replace H := let_hid H
    obtain ⟨t_10, ht_10, H⟩ := H
    have ct_10 := cat_rule (P := Tryd.prog) ht_10 hl_t_10
    clear hl_t_10
    have hht_10 := Lib.hid ht_10
    clear ht_10
    replace H := bind_hid H
    obtain ⟨t_13, qt_13, H⟩ := H
    have nt_13 : ∀ d os, Calls Tryd.prog 43 #[.int .i64 x_hue] (Go.Sort.grow (redrawn wt_4 d) os) fun e w'' => e = .returned (.string t_13) ∧ ∃ p : Regrown, w'' = Go.Sort.grow (redrawn wt_4 p.d) p.os := fun d os => Calls.regrown_of (Go.Proofs.YtkinlkmmelkdnaaDoor.GsL1Num.C (x_hue)  _    qt_13)
    replace H := guard_hid H
    obtain ⟨hl_t_14, H⟩ := H
    replace H := let_hid H
    obtain ⟨t_14, ht_14, H⟩ := H
    have ct_14 := cat_rule (P := Tryd.prog) ht_14 hl_t_14
    clear hl_t_14
    have hht_14 := Lib.hid ht_14
    clear ht_14
    replace H := guard_hid H
    obtain ⟨hl_t_15, H⟩ := H
    replace H := let_hid H
    obtain ⟨t_15, ht_15, H⟩ := H
    have ct_15 := cat_rule (P := Tryd.prog) ht_15 hl_t_15
    clear hl_t_15
    have hht_15 := Lib.hid ht_15
    clear ht_15
    replace H := bind_hid H
    obtain ⟨t_18, qt_18, H⟩ := H
    have nt_18 : ∀ d os, Calls Tryd.prog 43 #[.int .i64 x_width] (Go.Sort.grow (redrawn wt_4 d) os) fun e w'' => e = .returned (.string t_18) ∧ ∃ p : Regrown, w'' = Go.Sort.grow (redrawn wt_4 p.d) p.os := fun d os => Calls.regrown_of (Go.Proofs.YtkinlkmmelkdnaaDoor.GsL1Num.C (x_width)  _    qt_18)
    replace H := guard_hid H
    obtain ⟨hl_t_19, H⟩ := H
    replace H := let_hid H
    obtain ⟨t_19, ht_19, H⟩ := H
    have ct_19 := cat_rule (P := Tryd.prog) ht_19 hl_t_19
    clear hl_t_19
    have hht_19 := Lib.hid ht_19
    clear ht_19
    replace H := guard_hid H
    obtain ⟨hl_t_20, H⟩ := H
    replace H := let_hid H
    obtain ⟨t_20, ht_20, H⟩ := H
    have ct_20 := cat_rule (P := Tryd.prog) ht_20 hl_t_20
    clear hl_t_20
    have hht_20 := Lib.hid ht_20
    clear ht_20
    replace H := bind_hid H
    obtain ⟨t_23, qt_23, H⟩ := H
    have nt_23 : ∀ d os, Calls Tryd.prog 43 #[.int .i64 x_dark] (Go.Sort.grow (redrawn wt_4 d) os) fun e w'' => e = .returned (.string t_23) ∧ ∃ p : Regrown, w'' = Go.Sort.grow (redrawn wt_4 p.d) p.os := fun d os => Calls.regrown_of (Go.Proofs.YtkinlkmmelkdnaaDoor.GsL1Num.C (x_dark)  _    qt_23)
    replace H := guard_hid H
    obtain ⟨hl_t_24, H⟩ := H
    replace H := let_hid H
    obtain ⟨t_24, ht_24, H⟩ := H
    have ct_24 := cat_rule (P := Tryd.prog) ht_24 hl_t_24
    clear hl_t_24
    have hht_24 := Lib.hid ht_24
    clear ht_24
    replace H := guard_hid H
    obtain ⟨hl_t_25, H⟩ := H
    replace H := let_hid H
    obtain ⟨t_25, ht_25, H⟩ := H
    have ct_25 := cat_rule (P := Tryd.prog) ht_25 hl_t_25
    clear hl_t_25
    have hht_25 := Lib.hid ht_25
    clear ht_25
    replace H := bind_hid H
    obtain ⟨t_28, qt_28, H⟩ := H
    have nt_28 : ∀ d os, Calls Tryd.prog 43 #[.int .i64 x_light] (Go.Sort.grow (redrawn wt_4 d) os) fun e w'' => e = .returned (.string t_28) ∧ ∃ p : Regrown, w'' = Go.Sort.grow (redrawn wt_4 p.d) p.os := fun d os => Calls.regrown_of (Go.Proofs.YtkinlkmmelkdnaaDoor.GsL1Num.C (x_light)  _    qt_28)
    replace H := guard_hid H
    obtain ⟨hl_t_29, H⟩ := H
    replace H := let_hid H
    obtain ⟨t_29, ht_29, H⟩ := H
    have ct_29 := cat_rule (P := Tryd.prog) ht_29 hl_t_29
    clear hl_t_29
    have hht_29 := Lib.hid ht_29
    clear ht_29
    refine wp_region_quiet_below (by kernel_rfl) (by kernel_rfl) ?_
    repeat (go_big_quiet_step (first | (go_at_call 43; with_reducible exact nt_13 _ _) | (go_at_call 43; with_reducible exact nt_18 _ _) | (go_at_call 43; with_reducible exact nt_23 _ _) | (go_at_call 43; with_reducible exact nt_28 _ _) | (go_at_call 43; exact nt_13 _ _) | (go_at_call 43; exact nt_18 _ _) | (go_at_call 43; exact nt_23 _ _) | (go_at_call 43; exact nt_28 _ _)))
    refine wpQuiet_nil ?_
    intro Y3 hY3
    replace hY3 := below_class hY3
    clear nt_13 nt_18 nt_23 nt_28
    replace kx_0_0 := Hkx_0_0.out
    clear Hkx_0_0
    replace kx_0_1 := Hkx_0_1.out
    clear Hkx_0_1
    replace kx_0_2 := Hkx_0_2.out
    clear Hkx_0_2
    replace kx_0_3 := Hkx_0_3.out
    clear Hkx_0_3
    replace kx_0_4 := Hkx_0_4.out
    clear Hkx_0_4
    have HBY3 := Lib.hid (Below.step HBwt_4.out hY3)
    replace kx_0_0 := cell_below hY3 kx_0_0
    replace kx_0_1 := cell_below hY3 kx_0_1
    replace kx_0_2 := cell_below hY3 kx_0_2
    replace kx_0_3 := cell_below hY3 kx_0_3
    replace kx_0_4 := cell_below hY3 kx_0_4
    clear hY3
    cases ret_hid H
    go_wp2_with fail
    go_ret2
    exact ⟨rfl, HBY3.out⟩
end Go.Proofs.YtkinlkmmelkdnaaDoor.GsShadeText

