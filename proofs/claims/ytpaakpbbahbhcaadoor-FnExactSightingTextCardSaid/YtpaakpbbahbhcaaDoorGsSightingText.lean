/- loop.example/g01062/spec.SightingText as a plain function, and the contract of the program's: where the plain one has an answer, the program has it. Conditions: slices read as lists. -/
import Derived.Test.YtpaakpbbahbhcaaDoorChecked
import Derived.Test.YtpaakpbbahbhcaaDoorGoM
import Derived.Test.YtpaakpbbahbhcaaDoorGoRSighting
import Derived.Test.YtpaakpbbahbhcaaDoorHelpInt
import Derived.Test.YtpaakpbbahbhcaaDoorGsL13One
import Derived.Test.YtpaakpbbahbhcaaDoorGsL1Num
import Derived.WalkKit
import Derived.WalkSpells
import Derived.WalkLawsBesides
import Derived.BigQuiet
import Derived.OwnWalk
import Derived.Deep.LoopGhost
import Derived.Deep.QuietTactic
import Derived.IntWalk
import Derived.Lib.QuietBelow
namespace Go.Proofs.YtpaakpbbahbhcaaDoor.GsSightingText
set_option linter.unusedVariables false
set_option linter.unusedSimpArgs false
open Go.RowKit
open Go.Proofs.YtpaakpbbahbhcaaDoor.Rowed Go.Proofs.YtpaakpbbahbhcaaDoor.Turn Go.Proofs.YtpaakpbbahbhcaaDoor.Aid Go.Proofs.YtpaakpbbahbhcaaDoor.GoP Go.Proofs.YtpaakpbbahbhcaaDoor.GoM

def l0 (s_0_traits : (List Int)) (s : ByteArray × Int) (nx0 bk0 : ByteArray × Int → Option (ByteArray × Bool)) : Option (ByteArray × Bool) :=
  unp2 s fun text_4l0 i_5l0 =>
  letK (decide (i_5l0 < (s_0_traits.length : Int))) fun (t_26 : Bool) =>
  iteK t_26
  (guardK (text_4l0.size + (⟨#[32, 35]⟩ : ByteArray).size ≤ maxLen) <|
  letK (text_4l0 ++ (⟨#[32, 35]⟩ : ByteArray)) fun (t_28 : ByteArray) =>
  Option.bind (idx s_0_traits i_5l0) fun (yt_32 : Int) =>
  Option.bind (Go.Proofs.YtpaakpbbahbhcaaDoor.GsL1Num.P yt_32) fun (t_34 : ByteArray) =>
  guardK (t_28.size + t_34.size ≤ maxLen) <|
  letK (t_28 ++ t_34) fun (t_35 : ByteArray) =>
  letK (IntKind.i64.wrap (i_5l0 + 1)) fun (t_38 : Int) =>
  appK nx0 (t_35, t_38))
  (appK bk0 (text_4l0, i_5l0))

def e0  (s : ByteArray × Int) : Option (ByteArray × Bool) :=
  unp2 s fun text_4l0 i_5l0 =>
  some (text_4l0, true)

def P (fuel : Nat) (s_0_id : Int) (s_0_year : Int) (s_0_town : ByteArray) (s_0_traits : (List Int)) : Option (ByteArray × Bool) :=
  Option.bind (Go.Proofs.YtpaakpbbahbhcaaDoor.GsL13One.P s_0_id s_0_year s_0_town s_0_traits) fun (t_4 : Bool) =>
  letK (!t_4) fun (t_5 : Bool) =>
  iteK t_5
  (some ((⟨#[]⟩ : ByteArray), false))
  (Option.bind (Go.Proofs.YtpaakpbbahbhcaaDoor.GsL1Num.P s_0_id) fun (t_10 : ByteArray) =>
  guardK (t_10.size + (⟨#[32]⟩ : ByteArray).size ≤ maxLen) <|
  letK (t_10 ++ (⟨#[32]⟩ : ByteArray)) fun (t_11 : ByteArray) =>
  guardK (t_11.size + s_0_town.size ≤ maxLen) <|
  letK (t_11 ++ s_0_town) fun (t_14 : ByteArray) =>
  guardK (t_14.size + (⟨#[32]⟩ : ByteArray).size ≤ maxLen) <|
  letK (t_14 ++ (⟨#[32]⟩ : ByteArray)) fun (t_15 : ByteArray) =>
  Option.bind (Go.Proofs.YtpaakpbbahbhcaaDoor.GsL1Num.P s_0_year) fun (t_18 : ByteArray) =>
  guardK (t_15.size + t_18.size ≤ maxLen) <|
  letK (t_15 ++ t_18) fun (t_19 : ByteArray) =>
  loopK (l0 s_0_traits) fuel (t_19, 0) (e0 ))

set_option maxRecDepth 100000 in
set_option maxHeartbeats 2000000 in
theorem C (fuel : Nat) (s_0_id : Int) (s_0_year : Int) (s_0_town : ByteArray) (s_0_traits : (List Int)) (A0_3 : Option Addr) (c0_3 : Nat)  (w : World) (M0_3 : Hid (Cells w 1 A0_3 s_0_traits.length (Go.Proofs.YtpaakpbbahbhcaaDoor.HelpInt.iv s_0_traits))) (N0_3 : Hid (s_0_traits.length ≤ 9223372036854775807))  {r0 : ByteArray} {r1 : Bool} (H : Hid (P fuel s_0_id s_0_year s_0_town s_0_traits = some (r0, r1))) :
    Calls Tryd.prog 5 #[.agg #[.int .i64 s_0_id, .int .i64 s_0_year, .string s_0_town, .slice A0_3 s_0_traits.length c0_3]] w (Gives (.tuple #[.string r0, .bool r1]) w) := by
  have HB := Lib.hid (Below.refl w.heap.size w)
  unfold P at H
  have N0_3o := N0_3.out
  go_enter Tryd.func5, Tryd.ntmps5
  obtain ⟨w_s_0, hw_s_0⟩ : ∃ x, w.alloc (.cells #[.int .i64 s_0_id, .int .i64 s_0_year, .string s_0_town, .slice A0_3 s_0_traits.length c0_3] 28) = x := ⟨_, rfl⟩
  have bw_s_0 : Below w.heap.size w w_s_0 := by rw [← hw_s_0]; exact (Below.refl _ _).alloc (Nat.le_refl _) _
  have HBw_s_0 := Lib.hid (Below.step HB.out bw_s_0)
  clear bw_s_0
  have ks_0_0 : w_s_0.cell? ⟨w.heap.size, 0, none⟩ = some (.int .i64 s_0_id) := by rw [← hw_s_0]; exact box_new _ _ _ 0 _ rfl
  have ks_0_1 : w_s_0.cell? ⟨w.heap.size, 1, none⟩ = some (.int .i64 s_0_year) := by rw [← hw_s_0]; exact box_new _ _ _ 1 _ rfl
  have ks_0_2 : w_s_0.cell? ⟨w.heap.size, 2, none⟩ = some (.string s_0_town) := by rw [← hw_s_0]; exact box_new _ _ _ 2 _ rfl
  have ks_0_3 : w_s_0.cell? ⟨w.heap.size, 3, none⟩ = some (.slice A0_3 s_0_traits.length c0_3) := by rw [← hw_s_0]; exact box_new _ _ _ 3 _ rfl
  replace H := bind_hid H
  obtain ⟨t_4, qt_4, H⟩ := H
  go_wp2_with fail
  go_at_call 10
  refine (Go.Proofs.YtpaakpbbahbhcaaDoor.GsL13One.C (s_0_id) (s_0_year) (s_0_town) (s_0_traits) A0_3 c0_3 _   (Lib.hid (Cells.below M0_3.out HBw_s_0.out)) N0_3 qt_4).mono ?_
  rintro e_t_4 wt_4 ⟨rfl, bt_4⟩
  have HBwt_4 := Lib.hid (Below.step HBw_s_0.out bt_4)
  replace ks_0_0 := cell_below bt_4 ks_0_0
  replace ks_0_1 := cell_below bt_4 ks_0_1
  replace ks_0_2 := cell_below bt_4 ks_0_2
  replace ks_0_3 := cell_below bt_4 ks_0_3
  clear bt_4
  cases t_4 with
  | false =>
    replace H := let_hid H
    obtain ⟨t_5, ht_5, H⟩ := H
    obtain rfl : t_5 = true := ht_5.symm
    replace H := ite_t H
    cases ret_hid H
    go_wp2_with fail
    go_ret2
    exact ⟨rfl, HBwt_4.out⟩
  | true =>
    replace H := let_hid H
    obtain ⟨t_5, ht_5, H⟩ := H
    obtain rfl : t_5 = false := ht_5.symm
    replace H := ite_f H
    go_wp2_with fail
    have Hks_0_0 := Lib.hid ks_0_0
    replace ks_0_0 := cell_regrown ks_0_0
    have Hks_0_1 := Lib.hid ks_0_1
    replace ks_0_1 := cell_regrown ks_0_1
    have Hks_0_2 := Lib.hid ks_0_2
    replace ks_0_2 := cell_regrown ks_0_2
    have Hks_0_3 := Lib.hid ks_0_3
    replace ks_0_3 := cell_regrown ks_0_3
    replace H := bind_hid H
    obtain ⟨t_10, qt_10, H⟩ := H
    have nt_10 : ∀ d os, Calls Tryd.prog 11 #[.int .i64 s_0_id] (Go.Sort.grow (redrawn wt_4 d) os) fun e w'' => e = .returned (.string t_10) ∧ ∃ p : Regrown, w'' = Go.Sort.grow (redrawn wt_4 p.d) p.os := fun d os => Calls.regrown_of (Go.Proofs.YtpaakpbbahbhcaaDoor.GsL1Num.C (s_0_id)  _    qt_10)
    replace H := guard_hid H
    obtain ⟨hl_t_11, H⟩ := H
    replace H := let_hid H
    obtain ⟨t_11, ht_11, H⟩ := H
    have ct_11 := cat_rule (P := Tryd.prog) ht_11 hl_t_11
    clear hl_t_11
    have hht_11 := Lib.hid ht_11
    clear ht_11
    replace H := guard_hid H
    obtain ⟨hl_t_14, H⟩ := H
    replace H := let_hid H
    obtain ⟨t_14, ht_14, H⟩ := H
    have ct_14 := cat_rule (P := Tryd.prog) ht_14 hl_t_14
    clear hl_t_14
    have hht_14 := Lib.hid ht_14
    clear ht_14
    replace H := guard_hid H
    obtain ⟨hl_t_15, H⟩ := H
    replace H := let_hid H
    obtain ⟨t_15, ht_15, H⟩ := H
    have ct_15 := cat_rule (P := Tryd.prog) ht_15 hl_t_15
    clear hl_t_15
    have hht_15 := Lib.hid ht_15
    clear ht_15
    replace H := bind_hid H
    obtain ⟨t_18, qt_18, H⟩ := H
    have nt_18 : ∀ d os, Calls Tryd.prog 11 #[.int .i64 s_0_year] (Go.Sort.grow (redrawn wt_4 d) os) fun e w'' => e = .returned (.string t_18) ∧ ∃ p : Regrown, w'' = Go.Sort.grow (redrawn wt_4 p.d) p.os := fun d os => Calls.regrown_of (Go.Proofs.YtpaakpbbahbhcaaDoor.GsL1Num.C (s_0_year)  _    qt_18)
    replace H := guard_hid H
    obtain ⟨hl_t_19, H⟩ := H
    replace H := let_hid H
    obtain ⟨t_19, ht_19, H⟩ := H
    have ct_19 := cat_rule (P := Tryd.prog) ht_19 hl_t_19
    clear hl_t_19
    have hht_19 := Lib.hid ht_19
    clear ht_19
    refine wp_region_quiet_below (by kernel_rfl) (by kernel_rfl) ?_
    repeat (go_big_quiet_step (first | (go_at_call 11; with_reducible exact nt_10 _ _) | (go_at_call 11; with_reducible exact nt_18 _ _) | (go_at_call 11; exact nt_10 _ _) | (go_at_call 11; exact nt_18 _ _)))
    refine wpQuiet_nil ?_
    intro Y3 hY3
    replace hY3 := below_class hY3
    clear nt_10 nt_18
    replace ks_0_0 := Hks_0_0.out
    clear Hks_0_0
    replace ks_0_1 := Hks_0_1.out
    clear Hks_0_1
    replace ks_0_2 := Hks_0_2.out
    clear Hks_0_2
    replace ks_0_3 := Hks_0_3.out
    clear Hks_0_3
    have HBY3 := Lib.hid (Below.step HBwt_4.out hY3)
    replace ks_0_0 := cell_below hY3 ks_0_0
    replace ks_0_1 := cell_below hY3 ks_0_1
    replace ks_0_2 := cell_below hY3 ks_0_2
    replace ks_0_3 := cell_below hY3 ks_0_3
    clear hY3
    go_wp2_with fail
    go_loopg [4, 5] (fuel) (fun m_ v4_ v5_ wr => ∃ (text_4l0 : ByteArray) (i_5l0 : Int), v4_ = .string text_4l0 ∧ v5_ = .int .i64 i_5l0 ∧ Hid (loopK (l0 s_0_traits) m_ (text_4l0, i_5l0) (e0 ) = some (r0, r1)) ∧ Hid (Below w.heap.size w wr) ∧ wr.cell? ⟨w.heap.size, 0, none⟩ = some (.int .i64 s_0_id) ∧ wr.cell? ⟨w.heap.size, 1, none⟩ = some (.int .i64 s_0_year) ∧ wr.cell? ⟨w.heap.size, 2, none⟩ = some (.string s_0_town) ∧ wr.cell? ⟨w.heap.size, 3, none⟩ = some (.slice A0_3 s_0_traits.length c0_3))
    case atStart => exact ⟨_, _, rfl, rfl, H, HBY3, ks_0_0, ks_0_1, ks_0_2, ks_0_3⟩
    case round =>
      obtain ⟨text_4l0, i_5l0, rfl, rfl, H, HBwr0, ks_0_0, ks_0_1, ks_0_2, ks_0_3⟩ := hrel
      rename World => wr0
      cases gk with
      | zero => exact (loop_zero H).elim
      | succ m0 =>
        replace H := loop_succ H
        unfold l0 at H
        replace H := unp2_hid H
        replace H := let_hid H
        obtain ⟨t_26, ht_26, H⟩ := H
        cases t_26 with
        | false =>
          replace H := ite_f H
          replace H := app_hid H
          unfold e0 at H
          replace H := unp2_hid H
          cases ret_hid H
          go_wp2_with fail
          go_ret2
          exact ⟨rfl, HBwr0.out⟩
        | true =>
          replace H := ite_t H
          replace H := guard_hid H
          obtain ⟨hl_t_28, H⟩ := H
          replace H := let_hid H
          obtain ⟨t_28, ht_28, H⟩ := H
          have ct_28 := cat_rule (P := Tryd.prog) ht_28 hl_t_28
          clear hl_t_28
          have hht_28 := Lib.hid ht_28
          clear ht_28
          replace H := idx_hid H
          obtain ⟨nt_32, yt_32, et_32, lt_32, gt_32, H⟩ := H
          subst et_32
          have nc_74 : nt_32 < s_0_traits.length := by have := of_decide_eq_true ht_26; omega
          obtain ⟨ab_t_32, ao_t_32, zt_32, At_32, z_t_32, ct_32_0⟩ := Go.Proofs.YtpaakpbbahbhcaaDoor.HelpInt.Ints.at_ M0_3.out lt_32
          obtain rfl := Option.some.inj (gt_32.out.symm.trans z_t_32)
          subst At_32
          have ltt_32 := cell_lt ct_32_0
          replace ct_32_0 := cell_below HBwr0.out ct_32_0
          clear z_t_32
          have b0t_32 : (0 : Int) ≤ (nt_32 : Int) := by omega
          have b1t_32 : (nt_32 : Int) < ((s_0_traits.length : Nat) : Int) := by omega
          have b2t_32 : ((nt_32 : Int)).toNat = nt_32 := by omega
          replace H := bind_hid H
          obtain ⟨t_34, qt_34, H⟩ := H
          go_wp2_with fail
          go_at_call 11
          refine (Go.Proofs.YtpaakpbbahbhcaaDoor.GsL1Num.C (yt_32)  _    qt_34).mono ?_
          rintro e_t_34 wt_34 ⟨rfl, bt_34⟩
          have HBwt_34 := Lib.hid (Below.step HBwr0.out bt_34)
          replace ks_0_0 := cell_below bt_34 ks_0_0
          replace ks_0_1 := cell_below bt_34 ks_0_1
          replace ks_0_2 := cell_below bt_34 ks_0_2
          replace ks_0_3 := cell_below bt_34 ks_0_3
          replace ct_32_0 := cell_below bt_34 ct_32_0
          clear bt_34
          replace H := guard_hid H
          obtain ⟨hl_t_35, H⟩ := H
          replace H := let_hid H
          obtain ⟨t_35, ht_35, H⟩ := H
          have ct_35 := cat_rule (P := Tryd.prog) ht_35 hl_t_35
          clear hl_t_35
          have hht_35 := Lib.hid ht_35
          clear ht_35
          replace H := let_hid H
          obtain ⟨t_38, ht_38, H⟩ := H
          replace H := app_hid H
          go_wp2_with fail
          go_roundg m0
          case measure => omega
          case rel => exact ⟨_, _, rfl, rfl, H, HBwt_34, ks_0_0, ks_0_1, ks_0_2, ks_0_3⟩
end Go.Proofs.YtpaakpbbahbhcaaDoor.GsSightingText
