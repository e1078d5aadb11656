/- loop.example/g01062/impl.SightingText as a plain function, and the contract of the program's: where the plain one has an answer, the program has it. Conditions: slices read as lists. -/
import Derived.Test.YtpaakpbbahbhcaaDoorChecked
import Derived.Test.YtpaakpbbahbhcaaDoorGoM
import Derived.Test.YtpaakpbbahbhcaaDoorTab
import Derived.Test.YtpaakpbbahbhcaaDoorGoRSighting
import Derived.Test.YtpaakpbbahbhcaaDoorHelpInt
import Derived.Test.YtpaakpbbahbhcaaDoorGiIsSighting
import Derived.Test.YtpaakpbbahbhcaaDoorGxStrconvItoa
import Derived.WalkKit
import Derived.WalkSpells
import Derived.WalkLawsBesides
import Derived.BigQuiet
import Derived.OwnWalk
import Derived.Deep.LoopGhost
import Derived.Deep.QuietTactic
import Derived.IntWalk
import Derived.Lib.QuietBelow
namespace Go.Proofs.YtpaakpbbahbhcaaDoor.GiSightingText
set_option linter.unusedVariables false
set_option linter.unusedSimpArgs false
open Go.RowKit
open Go.Proofs.YtpaakpbbahbhcaaDoor.Rowed Go.Proofs.YtpaakpbbahbhcaaDoor.Turn Go.Proofs.YtpaakpbbahbhcaaDoor.Aid Go.Proofs.YtpaakpbbahbhcaaDoor.GoP Go.Proofs.YtpaakpbbahbhcaaDoor.GoM Go.Proofs.YtpaakpbbahbhcaaDoor.Tab

def l0 (s_0_traits : (List Int)) (k0 : Nat) (s : ByteArray) (nx0 bk0 : ByteArray → Option (ByteArray × Bool)) : Option (ByteArray × Bool) :=
  letK s fun text_4l0 =>
  Option.bind (idx s_0_traits (k0 : Int)) fun (yt_26 : Int) =>
  Option.bind (Go.Proofs.YtpaakpbbahbhcaaDoor.GxStrconvItoa.P yt_26) fun (t_31 : ByteArray) =>
  guardK ((⟨#[32, 35]⟩ : ByteArray).size + t_31.size ≤ maxLen) <|
  letK ((⟨#[32, 35]⟩ : ByteArray) ++ t_31) fun (t_32 : ByteArray) =>
  guardK (text_4l0.size + t_32.size ≤ maxLen) <|
  letK (text_4l0 ++ t_32) fun (t_33 : ByteArray) =>
  appK nx0 (t_33)

def e0  (s : ByteArray) : Option (ByteArray × Bool) :=
  letK s fun text_4l0 =>
  some (text_4l0, true)

def P (s_0_id : Int) (s_0_year : Int) (s_0_town : ByteArray) (s_0_traits : (List Int)) : Option (ByteArray × Bool) :=
  Option.bind (Go.Proofs.YtpaakpbbahbhcaaDoor.GiIsSighting.P s_0_id s_0_year s_0_town s_0_traits) fun (t_4 : Bool) =>
  letK (!t_4) fun (t_5 : Bool) =>
  iteK t_5
  (some ((⟨#[]⟩ : ByteArray), false))
  (Option.bind (Go.Proofs.YtpaakpbbahbhcaaDoor.GxStrconvItoa.P s_0_id) fun (t_10 : ByteArray) =>
  guardK (t_10.size + (⟨#[32]⟩ : ByteArray).size ≤ maxLen) <|
  letK (t_10 ++ (⟨#[32]⟩ : ByteArray)) fun (t_11 : ByteArray) =>
  guardK (t_11.size + s_0_town.size ≤ maxLen) <|
  letK (t_11 ++ s_0_town) fun (t_14 : ByteArray) =>
  guardK (t_14.size + (⟨#[32]⟩ : ByteArray).size ≤ maxLen) <|
  letK (t_14 ++ (⟨#[32]⟩ : ByteArray)) fun (t_15 : ByteArray) =>
  Option.bind (Go.Proofs.YtpaakpbbahbhcaaDoor.GxStrconvItoa.P s_0_year) fun (t_18 : ByteArray) =>
  guardK (t_15.size + t_18.size ≤ maxLen) <|
  letK (t_15 ++ t_18) fun (t_19 : ByteArray) =>
  cntK (l0 s_0_traits) (s_0_traits.length) 0 (t_19) (e0 ))

set_option maxRecDepth 100000 in
set_option maxHeartbeats 2000000 in
theorem C (s_0_id : Int) (s_0_year : Int) (s_0_town : ByteArray) (s_0_traits : (List Int)) (A0_3 : Option Addr) (c0_3 : Nat)  (w : World) (HT : Hid (Tab w)) (M0_3 : Hid (Cells w 1 A0_3 s_0_traits.length (Go.Proofs.YtpaakpbbahbhcaaDoor.HelpInt.iv s_0_traits))) (N0_3 : Hid (s_0_traits.length ≤ 9223372036854775807))  {r0 : ByteArray} {r1 : Bool} (H : Hid (P s_0_id s_0_year s_0_town s_0_traits = some (r0, r1))) :
    Calls Tryd.prog 7 #[.agg #[.int .i64 s_0_id, .int .i64 s_0_year, .string s_0_town, .slice A0_3 s_0_traits.length c0_3]] w (Gives (.tuple #[.string r0, .bool r1]) w) := by
  have HB := Lib.hid (Below.refl w.heap.size w)
  unfold P at H
  have N0_3o := N0_3.out
  go_enter Tryd.func7, Tryd.ntmps7
  obtain ⟨w_s_0, hw_s_0⟩ : ∃ x, w.alloc (.cells #[.int .i64 s_0_id, .int .i64 s_0_year, .string s_0_town, .slice A0_3 s_0_traits.length c0_3] 28) = x := ⟨_, rfl⟩
  have bw_s_0 : Below w.heap.size w w_s_0 := by rw [← hw_s_0]; exact (Below.refl _ _).alloc (Nat.le_refl _) _
  have HBw_s_0 := Lib.hid (Below.step HB.out bw_s_0)
  clear bw_s_0
  have ks_0_0 : w_s_0.cell? ⟨w.heap.size, 0, none⟩ = some (.int .i64 s_0_id) := by rw [← hw_s_0]; exact box_new _ _ _ 0 _ rfl
  have ks_0_1 : w_s_0.cell? ⟨w.heap.size, 1, none⟩ = some (.int .i64 s_0_year) := by rw [← hw_s_0]; exact box_new _ _ _ 1 _ rfl
  have ks_0_2 : w_s_0.cell? ⟨w.heap.size, 2, none⟩ = some (.string s_0_town) := by rw [← hw_s_0]; exact box_new _ _ _ 2 _ rfl
  have ks_0_3 : w_s_0.cell? ⟨w.heap.size, 3, none⟩ = some (.slice A0_3 s_0_traits.length c0_3) := by rw [← hw_s_0]; exact box_new _ _ _ 3 _ rfl
  replace H := bind_hid H
  obtain ⟨t_4, qt_4, H⟩ := H
  go_wp2_with fail
  go_at_call 13
  refine (Go.Proofs.YtpaakpbbahbhcaaDoor.GiIsSighting.C (s_0_id) (s_0_year) (s_0_town) (s_0_traits) A0_3 c0_3 _   (Lib.hid (Cells.below M0_3.out HBw_s_0.out)) N0_3 qt_4).mono ?_
  rintro e_t_4 wt_4 ⟨rfl, bt_4⟩
  have HBwt_4 := Lib.hid (Below.step HBw_s_0.out bt_4)
  replace ks_0_0 := cell_below bt_4 ks_0_0
  replace ks_0_1 := cell_below bt_4 ks_0_1
  replace ks_0_2 := cell_below bt_4 ks_0_2
  replace ks_0_3 := cell_below bt_4 ks_0_3
  clear bt_4
  cases t_4 with
  | false =>
    replace H := let_hid H
    obtain ⟨t_5, ht_5, H⟩ := H
    obtain rfl : t_5 = true := ht_5.symm
    replace H := ite_t H
    cases ret_hid H
    go_wp2_with fail
    go_ret2
    exact ⟨rfl, HBwt_4.out⟩
  | true =>
    replace H := let_hid H
    obtain ⟨t_5, ht_5, H⟩ := H
    obtain rfl : t_5 = false := ht_5.symm
    replace H := ite_f H
    go_wp2_with fail
    have Hks_0_0 := Lib.hid ks_0_0
    replace ks_0_0 := cell_regrown ks_0_0
    have Hks_0_1 := Lib.hid ks_0_1
    replace ks_0_1 := cell_regrown ks_0_1
    have Hks_0_2 := Lib.hid ks_0_2
    replace ks_0_2 := cell_regrown ks_0_2
    have Hks_0_3 := Lib.hid ks_0_3
    replace ks_0_3 := cell_regrown ks_0_3
    replace H := bind_hid H
    obtain ⟨t_10, qt_10, H⟩ := H
    have nt_10 : ∀ d os, Calls Tryd.prog 14 #[.int .i64 s_0_id] (Go.Sort.grow (redrawn wt_4 d) os) fun e w'' => e = .returned (.string t_10) ∧ ∃ p : Regrown, w'' = Go.Sort.grow (redrawn wt_4 p.d) p.os := fun d os => Calls.regrown_of (Go.Proofs.YtpaakpbbahbhcaaDoor.GxStrconvItoa.C (s_0_id)  _ (tab_below (below_regrown _ _ _) (tab_below HBwt_4.out HT))   qt_10)
    replace H := guard_hid H
    obtain ⟨hl_t_11, H⟩ := H
    replace H := let_hid H
    obtain ⟨t_11, ht_11, H⟩ := H
    have ct_11 := cat_rule (P := Tryd.prog) ht_11 hl_t_11
    clear hl_t_11
    have hht_11 := Lib.hid ht_11
    clear ht_11
    replace H := guard_hid H
    obtain ⟨hl_t_14, H⟩ := H
    replace H := let_hid H
    obtain ⟨t_14, ht_14, H⟩ := H
    have ct_14 := cat_rule (P := Tryd.prog) ht_14 hl_t_14
    clear hl_t_14
    have hht_14 := Lib.hid ht_14
    clear ht_14
    replace H := guard_hid H
    obtain ⟨hl_t_15, H⟩ := H
    replace H := let_hid H
    obtain ⟨t_15, ht_15, H⟩ := H
    have ct_15 := cat_rule (P := Tryd.prog) ht_15 hl_t_15
    clear hl_t_15
    have hht_15 := Lib.hid ht_15
    clear ht_15
    replace H := bind_hid H
    obtain ⟨t_18, qt_18, H⟩ := H
    have nt_18 : ∀ d os, Calls Tryd.prog 14 #[.int .i64 s_0_year] (Go.Sort.grow (redrawn wt_4 d) os) fun e w'' => e = .returned (.string t_18) ∧ ∃ p : Regrown, w'' = Go.Sort.grow (redrawn wt_4 p.d) p.os := fun d os => Calls.regrown_of (Go.Proofs.YtpaakpbbahbhcaaDoor.GxStrconvItoa.C (s_0_year)  _ (tab_below (below_regrown _ _ _) (tab_below HBwt_4.out HT))   qt_18)
    replace H := guard_hid H
    obtain ⟨hl_t_19, H⟩ := H
    replace H := let_hid H
    obtain ⟨t_19, ht_19, H⟩ := H
    have ct_19 := cat_rule (P := Tryd.prog) ht_19 hl_t_19
    clear hl_t_19
    have hht_19 := Lib.hid ht_19
    clear ht_19
    refine wp_region_quiet_below (by kernel_rfl) (by kernel_rfl) ?_
    repeat (go_big_quiet_step (first | (go_at_call 14; with_reducible exact nt_10 _ _) | (go_at_call 14; with_reducible exact nt_18 _ _) | (go_at_call 14; exact nt_10 _ _) | (go_at_call 14; exact nt_18 _ _)))
    refine wpQuiet_nil ?_
    intro Y3 hY3
    replace hY3 := below_class hY3
    clear nt_10 nt_18
    replace ks_0_0 := Hks_0_0.out
    clear Hks_0_0
    replace ks_0_1 := Hks_0_1.out
    clear Hks_0_1
    replace ks_0_2 := Hks_0_2.out
    clear Hks_0_2
    replace ks_0_3 := Hks_0_3.out
    clear Hks_0_3
    have HBY3 := Lib.hid (Below.step HBwt_4.out hY3)
    replace ks_0_0 := cell_below hY3 ks_0_0
    replace ks_0_1 := cell_below hY3 ks_0_1
    replace ks_0_2 := cell_below hY3 ks_0_2
    replace ks_0_3 := cell_below hY3 ks_0_3
    clear hY3
    go_wp2_with fail
    go_loopg [25, 4] (s_0_traits.length) (fun m_ v25_ v4_ wr => ∃ (k0 : Nat) (text_4l0 : ByteArray), k0 + m_ = s_0_traits.length ∧ v25_ = .int .i64 (k0 : Int) ∧ v4_ = .string text_4l0 ∧ Hid (cntK (l0 s_0_traits) m_ k0 (text_4l0) (e0 ) = some (r0, r1)) ∧ Hid (Below w.heap.size w wr) ∧ wr.cell? ⟨w.heap.size, 0, none⟩ = some (.int .i64 s_0_id) ∧ wr.cell? ⟨w.heap.size, 1, none⟩ = some (.int .i64 s_0_year) ∧ wr.cell? ⟨w.heap.size, 2, none⟩ = some (.string s_0_town) ∧ wr.cell? ⟨w.heap.size, 3, none⟩ = some (.slice A0_3 s_0_traits.length c0_3))
    case atStart => exact ⟨0, _, by omega, rfl, rfl, H, HBY3, ks_0_0, ks_0_1, ks_0_2, ks_0_3⟩
    case round =>
      obtain ⟨k0, text_4l0, hkm0, rfl, rfl, H, HBwr0, ks_0_0, ks_0_1, ks_0_2, ks_0_3⟩ := hrel
      rename World => wr0
      cases gk with
      | zero =>
        obtain rfl : k0 = s_0_traits.length := by omega
        have hc0 : decide (((s_0_traits.length : Nat) : Int) < ((s_0_traits.length : Nat) : Int)) = false := by simp
        replace H := cnt_zero H
        unfold e0 at H
        replace H := let_hid H
        obtain ⟨_, rfl, H⟩ := H
        cases ret_hid H
        go_wp2_with fail
        go_ret2
        exact ⟨rfl, HBwr0.out⟩
      | succ m0 =>
        have hlt0 : k0 < s_0_traits.length := by omega
        have hc0 : decide ((k0 : Int) < ((s_0_traits.length : Nat) : Int)) = true := by simp; omega
        replace H := cnt_succ H
        unfold l0 at H
        replace H := let_hid H
        obtain ⟨_, rfl, H⟩ := H
        replace H := idx_hid H
        obtain ⟨nt_26, yt_26, et_26, lt_26, gt_26, H⟩ := H
        obtain rfl : k0 = nt_26 := by omega
        clear et_26
        obtain ⟨ab_t_26, ao_t_26, zt_26, At_26, z_t_26, ct_26_0⟩ := Go.Proofs.YtpaakpbbahbhcaaDoor.HelpInt.Ints.at_ M0_3.out lt_26
        obtain rfl := Option.some.inj (gt_26.out.symm.trans z_t_26)
        subst At_26
        have ltt_26 := cell_lt ct_26_0
        replace ct_26_0 := cell_below HBwr0.out ct_26_0
        clear z_t_26
        have b0t_26 : (0 : Int) ≤ (k0 : Int) := by omega
        have b1t_26 : (k0 : Int) < ((s_0_traits.length : Nat) : Int) := by omega
        have b2t_26 : ((k0 : Int)).toNat = k0 := by omega
        replace H := bind_hid H
        obtain ⟨t_31, qt_31, H⟩ := H
        go_wp2_with fail
        go_at_call 14
        refine (Go.Proofs.YtpaakpbbahbhcaaDoor.GxStrconvItoa.C (yt_26)  _ (tab_below HBwr0.out HT)   qt_31).mono ?_
        rintro e_t_31 wt_31 ⟨rfl, bt_31⟩
        have HBwt_31 := Lib.hid (Below.step HBwr0.out bt_31)
        replace ks_0_0 := cell_below bt_31 ks_0_0
        replace ks_0_1 := cell_below bt_31 ks_0_1
        replace ks_0_2 := cell_below bt_31 ks_0_2
        replace ks_0_3 := cell_below bt_31 ks_0_3
        replace ct_26_0 := cell_below bt_31 ct_26_0
        clear bt_31
        replace H := guard_hid H
        obtain ⟨hl_t_32, H⟩ := H
        replace H := let_hid H
        obtain ⟨t_32, ht_32, H⟩ := H
        have ct_32 := cat_rule (P := Tryd.prog) ht_32 hl_t_32
        clear hl_t_32
        have hht_32 := Lib.hid ht_32
        clear ht_32
        replace H := guard_hid H
        obtain ⟨hl_t_33, H⟩ := H
        replace H := let_hid H
        obtain ⟨t_33, ht_33, H⟩ := H
        have ct_33 := cat_rule (P := Tryd.prog) ht_33 hl_t_33
        clear hl_t_33
        have hht_33 := Lib.hid ht_33
        clear ht_33
        replace H := app_hid H
        go_wp2_with fail
        go_roundg m0
        case measure => omega
        case rel => exact ⟨k0 + 1, _, by omega, by go_num, rfl, H, HBwt_31, ks_0_0, ks_0_1, ks_0_2, ks_0_3⟩
end Go.Proofs.YtpaakpbbahbhcaaDoor.GiSightingText
