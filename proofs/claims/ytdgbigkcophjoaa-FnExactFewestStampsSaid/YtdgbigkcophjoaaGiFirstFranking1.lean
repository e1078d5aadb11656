/- loop.example/g01062/impl.firstFranking$1 as a plain function, and the contract of the program's: where the plain one has an answer, the program has it. Conditions: slices read as lists. -/
import Derived.Test.YtdgbigkcophjoaaChecked
import Derived.Test.YtdgbigkcophjoaaGoM
import Derived.Test.YtdgbigkcophjoaaGoRStamp
import Derived.Test.YtdgbigkcophjoaaHelpInt
import Derived.WalkKit
import Derived.WalkSpells
import Derived.WalkLawsBesides
import Derived.BigQuiet
import Derived.OwnWalk
import Derived.Deep.LoopGhost
import Derived.Deep.QuietTactic
import Derived.IntWalk
import Derived.Lib.QuietBelow
namespace Go.Proofs.Ytdgbigkcophjoaa.GiFirstFranking1
set_option linter.unusedVariables false
set_option linter.unusedSimpArgs false
open Go.RowKit
open Go.Proofs.Ytdgbigkcophjoaa.Rowed Go.Proofs.Ytdgbigkcophjoaa.Turn Go.Proofs.Ytdgbigkcophjoaa.Aid Go.Proofs.Ytdgbigkcophjoaa.GoP Go.Proofs.Ytdgbigkcophjoaa.GoM

def P (s_0 : Go.Proofs.Ytdgbigkcophjoaa.PlainStamp.St) (hq0 : Int) (hq1 : Int) (hq2 : (List Int)) : Option (Bool) :=
  unStamp s_0 fun (s_0_id : Int) (s_0_face : Int) (s_0_color : Int) (s_0_year : Int) =>
  letK (decide (s_0_year ≤ hq0)) fun (t_5 : Bool) =>
  joinK (fun (t_11 : Bool) =>
  joinK (fun (t_26 : Bool) =>
  some t_26) fun jt_26 => iteK t_11 (letK (IntKind.i64.wrap (hq1 - s_0_face)) fun (t_17 : Int) =>
  Option.bind (idx hq2 t_17) fun (yt_18 : Int) =>
  Option.bind (idx hq2 hq1) fun (yt_22 : Int) =>
  letK (IntKind.i64.wrap (yt_22 - 1)) fun (t_24 : Int) =>
  letK (yt_18 == t_24) fun (t_25 : Bool) =>
  appK jt_26 t_25) (appK jt_26 false)) fun jt_11 => iteK t_5 (letK (decide (s_0_face ≤ hq1)) fun (t_10 : Bool) =>
  appK jt_11 t_10) (appK jt_11 false)

set_option maxRecDepth 100000 in
set_option maxHeartbeats 2000000 in
theorem C (s_0 : Go.Proofs.Ytdgbigkcophjoaa.PlainStamp.St) (hq0 : Int) (hq1 : Int) (hq2 : (List Int)) (Ahq2 : Option Addr) (chq2 : Nat) (gq0 : Nat) (gq1 : Nat) (gq2 : Nat) (w : World) (Mhq2 : Hid (Cells w 1 Ahq2 hq2.length (Go.Proofs.Ytdgbigkcophjoaa.HelpInt.iv hq2))) (Nhq2 : Hid (hq2.length ≤ 9223372036854775807)) (Fq0h : Hid (w.cell? ⟨gq0, 0, none⟩ = some (.int .i64 hq0))) (Fq1h : Hid (w.cell? ⟨gq1, 0, none⟩ = some (.int .i64 hq1))) (Fq2h : Hid (w.cell? ⟨gq2, 0, none⟩ = some (.slice Ahq2 hq2.length chq2))) {r : Bool} (H : Hid (P s_0 hq0 hq1 hq2 = some r)) :
    Calls Try.prog 108 #[s_0.val, .pointer (some ⟨gq0, 0, none⟩), .pointer (some ⟨gq1, 0, none⟩), .pointer (some ⟨gq2, 0, none⟩)] w (Gives (.bool r) w) := by
  have HB := Lib.hid (Below.refl w.heap.size w)
  unfold P at H
  obtain ⟨s_0_id, s_0_face, s_0_color, s_0_year⟩ := s_0
  replace H := unStamp_hid H
  unfold Go.Proofs.Ytdgbigkcophjoaa.PlainStamp.St.val
  have Nhq2o := Nhq2.out
  have Fq0 := Fq0h.out
  have Fq1 := Fq1h.out
  have Fq2 := Fq2h.out
  go_enter Try.func108, Try.ntmps108
  obtain ⟨w_s_0, hw_s_0⟩ : ∃ x, w.alloc (.cells #[.int .i64 s_0_id, .int .i64 s_0_face, .int .i64 s_0_color, .int .i64 s_0_year] 73) = x := ⟨_, rfl⟩
  have bw_s_0 : Below w.heap.size w w_s_0 := by rw [← hw_s_0]; exact (Below.refl _ _).alloc (Nat.le_refl _) _
  have HBw_s_0 := Lib.hid (Below.step HB.out bw_s_0)
  have Fq0__123 := cell_below bw_s_0 Fq0
  have Fq1__124 := cell_below bw_s_0 Fq1
  have Fq2__125 := cell_below bw_s_0 Fq2
  clear bw_s_0
  have ks_0_0 : w_s_0.cell? ⟨w.heap.size, 0, none⟩ = some (.int .i64 s_0_id) := by rw [← hw_s_0]; exact box_new _ _ _ 0 _ rfl
  have ks_0_1 : w_s_0.cell? ⟨w.heap.size, 1, none⟩ = some (.int .i64 s_0_face) := by rw [← hw_s_0]; exact box_new _ _ _ 1 _ rfl
  have ks_0_2 : w_s_0.cell? ⟨w.heap.size, 2, none⟩ = some (.int .i64 s_0_color) := by rw [← hw_s_0]; exact box_new _ _ _ 2 _ rfl
  have ks_0_3 : w_s_0.cell? ⟨w.heap.size, 3, none⟩ = some (.int .i64 s_0_year) := by rw [← hw_s_0]; exact box_new _ _ _ 3 _ rfl
  go_wp2_with fail
  clear Fq0 Fq1 Fq2
  have HFq0__123 := Lib.hid Fq0__123
  replace Fq0__123 := cell_regrown Fq0__123
  have HFq1__124 := Lib.hid Fq1__124
  replace Fq1__124 := cell_regrown Fq1__124
  have HFq2__125 := Lib.hid Fq2__125
  replace Fq2__125 := cell_regrown Fq2__125
  have Hks_0_0 := Lib.hid ks_0_0
  replace ks_0_0 := cell_regrown ks_0_0
  have Hks_0_1 := Lib.hid ks_0_1
  replace ks_0_1 := cell_regrown ks_0_1
  have Hks_0_2 := Lib.hid ks_0_2
  replace ks_0_2 := cell_regrown ks_0_2
  have Hks_0_3 := Lib.hid ks_0_3
  replace ks_0_3 := cell_regrown ks_0_3
  replace H := let_hid H
  obtain ⟨t_5, ht_5, H⟩ := H
  replace H := join_hid H
  cases t_5 with
  | false =>
    replace H := ite_f H
    replace H := app_hid H
    replace H := join_hid H
    replace H := ite_f H
    replace H := app_hid H
    refine wp_region_quiet_below (by kernel_rfl) (by kernel_rfl) ?_
    repeat (go_big_quiet_step (fail))
    refine wpQuiet_nil ?_
    intro Y1 hY1
    replace hY1 := below_class hY1
    replace Fq0__123 := HFq0__123.out
    clear HFq0__123
    replace Fq1__124 := HFq1__124.out
    clear HFq1__124
    replace Fq2__125 := HFq2__125.out
    clear HFq2__125
    replace ks_0_0 := Hks_0_0.out
    clear Hks_0_0
    replace ks_0_1 := Hks_0_1.out
    clear Hks_0_1
    replace ks_0_2 := Hks_0_2.out
    clear Hks_0_2
    replace ks_0_3 := Hks_0_3.out
    clear Hks_0_3
    have HBY1 := Lib.hid (Below.step HBw_s_0.out hY1)
    replace Fq0__123 := cell_below hY1 Fq0__123
    replace Fq1__124 := cell_below hY1 Fq1__124
    replace Fq2__125 := cell_below hY1 Fq2__125
    replace ks_0_0 := cell_below hY1 ks_0_0
    replace ks_0_1 := cell_below hY1 ks_0_1
    replace ks_0_2 := cell_below hY1 ks_0_2
    replace ks_0_3 := cell_below hY1 ks_0_3
    clear hY1
    obtain rfl := ret_hid H
    go_wp2_with fail
    go_ret
    exact ⟨rfl, HBY1.out⟩
  | true =>
    replace H := ite_t H
    replace H := let_hid H
    obtain ⟨t_10, ht_10, H⟩ := H
    replace H := app_hid H
    replace H := join_hid H
    cases t_10 with
    | false =>
      replace H := ite_f H
      replace H := app_hid H
      refine wp_region_quiet_below (by kernel_rfl) (by kernel_rfl) ?_
      repeat (go_big_quiet_step (fail))
      refine wpQuiet_nil ?_
      intro Y1 hY1
      replace hY1 := below_class hY1
      replace Fq0__123 := HFq0__123.out
      clear HFq0__123
      replace Fq1__124 := HFq1__124.out
      clear HFq1__124
      replace Fq2__125 := HFq2__125.out
      clear HFq2__125
      replace ks_0_0 := Hks_0_0.out
      clear Hks_0_0
      replace ks_0_1 := Hks_0_1.out
      clear Hks_0_1
      replace ks_0_2 := Hks_0_2.out
      clear Hks_0_2
      replace ks_0_3 := Hks_0_3.out
      clear Hks_0_3
      have HBY1 := Lib.hid (Below.step HBw_s_0.out hY1)
      replace Fq0__123 := cell_below hY1 Fq0__123
      replace Fq1__124 := cell_below hY1 Fq1__124
      replace Fq2__125 := cell_below hY1 Fq2__125
      replace ks_0_0 := cell_below hY1 ks_0_0
      replace ks_0_1 := cell_below hY1 ks_0_1
      replace ks_0_2 := cell_below hY1 ks_0_2
      replace ks_0_3 := cell_below hY1 ks_0_3
      clear hY1
      obtain rfl := ret_hid H
      go_wp2_with fail
      go_ret
      exact ⟨rfl, HBY1.out⟩
    | true =>
      replace H := ite_t H
      replace H := let_hid H
      obtain ⟨t_17, ht_17, H⟩ := H
      replace H := idx_hid H
      obtain ⟨nt_18, yt_18, et_18, lt_18, gt_18, H⟩ := H
      subst et_18
      obtain ⟨ab_t_18, ao_t_18, zt_18, At_18, z_t_18, ct_18_0⟩ := Go.Proofs.Ytdgbigkcophjoaa.HelpInt.Ints.at_ Mhq2.out lt_18
      obtain rfl := Option.some.inj (gt_18.out.symm.trans z_t_18)
      subst At_18
      have ltt_18 := cell_lt ct_18_0
      replace ct_18_0 := cell_below HBw_s_0.out ct_18_0
      clear z_t_18
      have b0t_18 : (0 : Int) ≤ (nt_18 : Int) := by omega
      have b1t_18 : (nt_18 : Int) < ((hq2.length : Nat) : Int) := by omega
      have b2t_18 : ((nt_18 : Int)).toNat = nt_18 := by omega
      have Hct_18_0 := Lib.hid ct_18_0
      replace ct_18_0 := cell_regrown ct_18_0
      replace H := idx_hid H
      obtain ⟨nt_22, yt_22, et_22, lt_22, gt_22, H⟩ := H
      subst et_22
      obtain ⟨ab_t_22, ao_t_22, zt_22, At_22, z_t_22, ct_22_0⟩ := Go.Proofs.Ytdgbigkcophjoaa.HelpInt.Ints.at_ Mhq2.out lt_22
      obtain rfl := Option.some.inj (gt_22.out.symm.trans z_t_22)
      simp only [Option.some.injEq, Addr.mk.injEq] at At_22
      obtain ⟨rfl, rfl, _⟩ := At_22
      have ltt_22 := cell_lt ct_22_0
      replace ct_22_0 := cell_below HBw_s_0.out ct_22_0
      clear z_t_22
      have b0t_22 : (0 : Int) ≤ (nt_22 : Int) := by omega
      have b1t_22 : (nt_22 : Int) < ((hq2.length : Nat) : Int) := by omega
      have b2t_22 : ((nt_22 : Int)).toNat = nt_22 := by omega
      have Hct_22_0 := Lib.hid ct_22_0
      replace ct_22_0 := cell_regrown ct_22_0
      replace H := let_hid H
      obtain ⟨t_24, ht_24, H⟩ := H
      replace H := let_hid H
      obtain ⟨t_25, ht_25, H⟩ := H
      replace H := app_hid H
      refine wp_region_quiet_below (by kernel_rfl) (by kernel_rfl) ?_
      repeat (go_big_quiet_step (fail))
      refine wpQuiet_nil ?_
      intro Y1 hY1
      replace hY1 := below_class hY1
      replace Fq0__123 := HFq0__123.out
      clear HFq0__123
      replace Fq1__124 := HFq1__124.out
      clear HFq1__124
      replace Fq2__125 := HFq2__125.out
      clear HFq2__125
      replace ks_0_0 := Hks_0_0.out
      clear Hks_0_0
      replace ks_0_1 := Hks_0_1.out
      clear Hks_0_1
      replace ks_0_2 := Hks_0_2.out
      clear Hks_0_2
      replace ks_0_3 := Hks_0_3.out
      clear Hks_0_3
      replace ct_18_0 := Hct_18_0.out
      clear Hct_18_0
      replace ct_22_0 := Hct_22_0.out
      clear Hct_22_0
      have HBY1 := Lib.hid (Below.step HBw_s_0.out hY1)
      replace Fq0__123 := cell_below hY1 Fq0__123
      replace Fq1__124 := cell_below hY1 Fq1__124
      replace Fq2__125 := cell_below hY1 Fq2__125
      replace ks_0_0 := cell_below hY1 ks_0_0
      replace ks_0_1 := cell_below hY1 ks_0_1
      replace ks_0_2 := cell_below hY1 ks_0_2
      replace ks_0_3 := cell_below hY1 ks_0_3
      replace ct_18_0 := cell_below hY1 ct_18_0
      replace ct_22_0 := cell_below hY1 ct_22_0
      clear hY1
      obtain rfl := ret_hid H
      go_wp2_with fail
      go_ret
      exact ⟨rfl, HBY1.out⟩
end Go.Proofs.Ytdgbigkcophjoaa.GiFirstFranking1
