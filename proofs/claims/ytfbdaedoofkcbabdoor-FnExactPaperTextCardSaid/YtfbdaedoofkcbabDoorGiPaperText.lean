/- loop.example/g01062/impl.PaperText as a plain function, and the contract of the program's: where the plain one has an answer, the program has it. Conditions: slices read as lists. -/
import Derived.Test.YtfbdaedoofkcbabDoorChecked
import Derived.Test.YtfbdaedoofkcbabDoorGoM
import Derived.Test.YtfbdaedoofkcbabDoorTab
import Derived.Test.YtfbdaedoofkcbabDoorGoRPaper
import Derived.Test.YtfbdaedoofkcbabDoorGiIsPaper
import Derived.Test.YtfbdaedoofkcbabDoorGxStrconvItoa
import Derived.WalkKit
import Derived.WalkSpells
import Derived.WalkLawsBesides
import Derived.BigQuiet
import Derived.OwnWalk
import Derived.Deep.LoopGhost
import Derived.Deep.QuietTactic
import Derived.IntWalk
import Derived.Lib.QuietBelow
namespace Go.Proofs.YtfbdaedoofkcbabDoor.GiPaperText
set_option linter.unusedVariables false
set_option linter.unusedSimpArgs false
open Go.RowKit
open Go.Proofs.YtfbdaedoofkcbabDoor.Rowed Go.Proofs.YtfbdaedoofkcbabDoor.Turn Go.Proofs.YtfbdaedoofkcbabDoor.Aid Go.Proofs.YtfbdaedoofkcbabDoor.GoP Go.Proofs.YtfbdaedoofkcbabDoor.GoM Go.Proofs.YtfbdaedoofkcbabDoor.Tab

def j1  (s : ByteArray) : Option (ByteArray × Bool) :=
  some (s, true)

def j0 (p_mark : ByteArray) (s : ByteArray) : Option (ByteArray × Bool) :=
  letK (!p_mark.toList.isEmpty) fun (t_29 : Bool) =>
  iteK t_29
  (guardK ((⟨#[32, 119, 109, 107, 32]⟩ : ByteArray).size + p_mark.size ≤ maxLen) <|
  letK ((⟨#[32, 119, 109, 107, 32]⟩ : ByteArray) ++ p_mark) fun (t_33 : ByteArray) =>
  guardK (s.size + t_33.size ≤ maxLen) <|
  letK (s ++ t_33) fun (t_34 : ByteArray) =>
  j1  (t_34))
  (j1  (s))

def P (p : Go.Proofs.YtfbdaedoofkcbabDoor.PPaper.Paper) : Option (ByteArray × Bool) :=
  unPaper p fun (p_id : Int) (p_thick : Int) (p_tint : Int) (p_mark : ByteArray) (p_laid : Bool) =>
  Option.bind (Go.Proofs.YtfbdaedoofkcbabDoor.GiIsPaper.P (Go.Proofs.YtfbdaedoofkcbabDoor.PPaper.Paper.mk p_id p_thick p_tint p_mark p_laid)) fun (t_4 : Bool) =>
  letK (!t_4) fun (t_5 : Bool) =>
  iteK t_5
  (some ((⟨#[]⟩ : ByteArray), false))
  (Option.bind (Go.Proofs.YtfbdaedoofkcbabDoor.GxStrconvItoa.P p_id) fun (t_10 : ByteArray) =>
  guardK (t_10.size + (⟨#[32]⟩ : ByteArray).size ≤ maxLen) <|
  letK (t_10 ++ (⟨#[32]⟩ : ByteArray)) fun (t_11 : ByteArray) =>
  Option.bind (Go.Proofs.YtfbdaedoofkcbabDoor.GxStrconvItoa.P p_thick) fun (t_14 : ByteArray) =>
  guardK (t_11.size + t_14.size ≤ maxLen) <|
  letK (t_11 ++ t_14) fun (t_15 : ByteArray) =>
  guardK (t_15.size + (⟨#[117, 109, 32, 116]⟩ : ByteArray).size ≤ maxLen) <|
  letK (t_15 ++ (⟨#[117, 109, 32, 116]⟩ : ByteArray)) fun (t_16 : ByteArray) =>
  Option.bind (Go.Proofs.YtfbdaedoofkcbabDoor.GxStrconvItoa.P p_tint) fun (t_19 : ByteArray) =>
  guardK (t_16.size + t_19.size ≤ maxLen) <|
  letK (t_16 ++ t_19) fun (t_20 : ByteArray) =>
  iteK p_laid
  (guardK (t_20.size + (⟨#[32, 108, 97, 105, 100]⟩ : ByteArray).size ≤ maxLen) <|
  letK (t_20 ++ (⟨#[32, 108, 97, 105, 100]⟩ : ByteArray)) fun (t_25 : ByteArray) =>
  j0 p_mark (t_25))
  (j0 p_mark (t_20)))

set_option maxRecDepth 100000 in
set_option maxHeartbeats 2000000 in
theorem C (p : Go.Proofs.YtfbdaedoofkcbabDoor.PPaper.Paper)   (w : World) (HT : Hid (Tab w))   {r0 : ByteArray} {r1 : Bool} (H : Hid (P p = some (r0, r1))) :
    Calls Tryd.prog 11 #[p.val] w (Gives (.tuple #[.string r0, .bool r1]) w) := by
  have HB := Lib.hid (Below.refl w.heap.size w)
  unfold P at H
  obtain ⟨p_id, p_thick, p_tint, p_mark, p_laid⟩ := p
  replace H := unPaper_hid H
  unfold Go.Proofs.YtfbdaedoofkcbabDoor.PPaper.Paper.val
  go_enter Tryd.func11, Tryd.ntmps11
  obtain ⟨w_p_0, hw_p_0⟩ : ∃ x, w.alloc (.cells #[.int .i64 p_id, .int .i64 p_thick, .int .i64 p_tint, .string p_mark, .bool p_laid] 33) = x := ⟨_, rfl⟩
  have bw_p_0 : Below w.heap.size w w_p_0 := by rw [← hw_p_0]; exact (Below.refl _ _).alloc (Nat.le_refl _) _
  have HBw_p_0 := Lib.hid (Below.step HB.out bw_p_0)
  clear bw_p_0
  have kp_0_0 : w_p_0.cell? ⟨w.heap.size, 0, none⟩ = some (.int .i64 p_id) := by rw [← hw_p_0]; exact box_new _ _ _ 0 _ rfl
  have kp_0_1 : w_p_0.cell? ⟨w.heap.size, 1, none⟩ = some (.int .i64 p_thick) := by rw [← hw_p_0]; exact box_new _ _ _ 1 _ rfl
  have kp_0_2 : w_p_0.cell? ⟨w.heap.size, 2, none⟩ = some (.int .i64 p_tint) := by rw [← hw_p_0]; exact box_new _ _ _ 2 _ rfl
  have kp_0_3 : w_p_0.cell? ⟨w.heap.size, 3, none⟩ = some (.string p_mark) := by rw [← hw_p_0]; exact box_new _ _ _ 3 _ rfl
  have kp_0_4 : w_p_0.cell? ⟨w.heap.size, 4, none⟩ = some (.bool p_laid) := by rw [← hw_p_0]; exact box_new _ _ _ 4 _ rfl
  replace H := bind_hid H
  obtain ⟨t_4, qt_4, H⟩ := H
  go_wp2_with fail
  go_at_call 19
  refine (Go.Proofs.YtfbdaedoofkcbabDoor.GiIsPaper.C ((Go.Proofs.YtfbdaedoofkcbabDoor.PPaper.Paper.mk p_id p_thick p_tint p_mark p_laid))  _   qt_4).mono ?_
  rintro e_t_4 wt_4 ⟨rfl, bt_4⟩
  have HBwt_4 := Lib.hid (Below.step HBw_p_0.out bt_4)
  replace kp_0_0 := cell_below bt_4 kp_0_0
  replace kp_0_1 := cell_below bt_4 kp_0_1
  replace kp_0_2 := cell_below bt_4 kp_0_2
  replace kp_0_3 := cell_below bt_4 kp_0_3
  replace kp_0_4 := cell_below bt_4 kp_0_4
  clear bt_4
  cases t_4 with
  | false =>
    replace H := let_hid H
    obtain ⟨t_5, ht_5, H⟩ := H
    obtain rfl : t_5 = true := ht_5.symm
    replace H := ite_t H
    cases ret_hid H
    go_wp2_with fail
    go_ret2
    exact ⟨rfl, HBwt_4.out⟩
  | true =>
    replace H := let_hid H
    obtain ⟨t_5, ht_5, H⟩ := H
    obtain rfl : t_5 = false := ht_5.symm
    replace H := ite_f H
    go_wp2_with fail
    have Hkp_0_0 := Lib.hid kp_0_0
    replace kp_0_0 := cell_regrown kp_0_0
    have Hkp_0_1 := Lib.hid kp_0_1
    replace kp_0_1 := cell_regrown kp_0_1
    have Hkp_0_2 := Lib.hid kp_0_2
    replace kp_0_2 := cell_regrown kp_0_2
    have Hkp_0_3 := Lib.hid kp_0_3
    replace kp_0_3 := cell_regrown kp_0_3
    have Hkp_0_4 := Lib.hid kp_0_4
    replace kp_0_4 := cell_regrown kp_0_4
    replace H := bind_hid H
    obtain ⟨t_10, qt_10, H⟩ := H
    have nt_10 : ∀ d os, Calls Tryd.prog 16 #[.int .i64 p_id] (Go.Sort.grow (redrawn wt_4 d) os) fun e w'' => e = .returned (.string t_10) ∧ ∃ p : Regrown, w'' = Go.Sort.grow (redrawn wt_4 p.d) p.os := fun d os => Calls.regrown_of (Go.Proofs.YtfbdaedoofkcbabDoor.GxStrconvItoa.C (p_id)  _ (tab_below (below_regrown _ _ _) (tab_below HBwt_4.out HT))  qt_10)
    replace H := guard_hid H
    obtain ⟨hl_t_11, H⟩ := H
    replace H := let_hid H
    obtain ⟨t_11, ht_11, H⟩ := H
    have ct_11 := cat_rule (P := Tryd.prog) ht_11 hl_t_11
    clear hl_t_11
    have hht_11 := Lib.hid ht_11
    clear ht_11
    replace H := bind_hid H
    obtain ⟨t_14, qt_14, H⟩ := H
    have nt_14 : ∀ d os, Calls Tryd.prog 16 #[.int .i64 p_thick] (Go.Sort.grow (redrawn wt_4 d) os) fun e w'' => e = .returned (.string t_14) ∧ ∃ p : Regrown, w'' = Go.Sort.grow (redrawn wt_4 p.d) p.os := fun d os => Calls.regrown_of (Go.Proofs.YtfbdaedoofkcbabDoor.GxStrconvItoa.C (p_thick)  _ (tab_below (below_regrown _ _ _) (tab_below HBwt_4.out HT))  qt_14)
    replace H := guard_hid H
    obtain ⟨hl_t_15, H⟩ := H
    replace H := let_hid H
    obtain ⟨t_15, ht_15, H⟩ := H
    have ct_15 := cat_rule (P := Tryd.prog) ht_15 hl_t_15
    clear hl_t_15
    have hht_15 := Lib.hid ht_15
    clear ht_15
    replace H := guard_hid H
    obtain ⟨hl_t_16, H⟩ := H
    replace H := let_hid H
    obtain ⟨t_16, ht_16, H⟩ := H
    have ct_16 := cat_rule (P := Tryd.prog) ht_16 hl_t_16
    clear hl_t_16
    have hht_16 := Lib.hid ht_16
    clear ht_16
    replace H := bind_hid H
    obtain ⟨t_19, qt_19, H⟩ := H
    have nt_19 : ∀ d os, Calls Tryd.prog 16 #[.int .i64 p_tint] (Go.Sort.grow (redrawn wt_4 d) os) fun e w'' => e = .returned (.string t_19) ∧ ∃ p : Regrown, w'' = Go.Sort.grow (redrawn wt_4 p.d) p.os := fun d os => Calls.regrown_of (Go.Proofs.YtfbdaedoofkcbabDoor.GxStrconvItoa.C (p_tint)  _ (tab_below (below_regrown _ _ _) (tab_below HBwt_4.out HT))  qt_19)
    replace H := guard_hid H
    obtain ⟨hl_t_20, H⟩ := H
    replace H := let_hid H
    obtain ⟨t_20, ht_20, H⟩ := H
    have ct_20 := cat_rule (P := Tryd.prog) ht_20 hl_t_20
    clear hl_t_20
    have hht_20 := Lib.hid ht_20
    clear ht_20
    refine wp_region_quiet_below (by kernel_rfl) (by kernel_rfl) ?_
    repeat (go_big_quiet_step (first | (go_at_call 16; with_reducible exact nt_10 _ _) | (go_at_call 16; with_reducible exact nt_14 _ _) | (go_at_call 16; with_reducible exact nt_19 _ _) | (go_at_call 16; exact nt_10 _ _) | (go_at_call 16; exact nt_14 _ _) | (go_at_call 16; exact nt_19 _ _)))
    refine wpQuiet_nil ?_
    intro Y3 hY3
    replace hY3 := below_class hY3
    clear nt_10 nt_14 nt_19
    replace kp_0_0 := Hkp_0_0.out
    clear Hkp_0_0
    replace kp_0_1 := Hkp_0_1.out
    clear Hkp_0_1
    replace kp_0_2 := Hkp_0_2.out
    clear Hkp_0_2
    replace kp_0_3 := Hkp_0_3.out
    clear Hkp_0_3
    replace kp_0_4 := Hkp_0_4.out
    clear Hkp_0_4
    have HBY3 := Lib.hid (Below.step HBwt_4.out hY3)
    replace kp_0_0 := cell_below hY3 kp_0_0
    replace kp_0_1 := cell_below hY3 kp_0_1
    replace kp_0_2 := cell_below hY3 kp_0_2
    replace kp_0_3 := cell_below hY3 kp_0_3
    replace kp_0_4 := cell_below hY3 kp_0_4
    clear hY3
    cases p_laid with
    | false =>
      replace H := ite_f H
      unfold j0 at H
      replace H := let_hid H
      obtain ⟨t_29, ht_29, H⟩ := H
      cases t_29 with
      | false =>
        replace H := ite_f H
        unfold j1 at H
        cases ret_hid H
        go_wp2_with fail
        go_ret2
        exact ⟨rfl, HBY3.out⟩
      | true =>
        replace H := ite_t H
        replace H := guard_hid H
        obtain ⟨hl_t_33, H⟩ := H
        replace H := let_hid H
        obtain ⟨t_33, ht_33, H⟩ := H
        have ct_33 := cat_rule (P := Tryd.prog) ht_33 hl_t_33
        clear hl_t_33
        have hht_33 := Lib.hid ht_33
        clear ht_33
        replace H := guard_hid H
        obtain ⟨hl_t_34, H⟩ := H
        replace H := let_hid H
        obtain ⟨t_34, ht_34, H⟩ := H
        have ct_34 := cat_rule (P := Tryd.prog) ht_34 hl_t_34
        clear hl_t_34
        have hht_34 := Lib.hid ht_34
        clear ht_34
        unfold j1 at H
        cases ret_hid H
        go_wp2_with fail
        go_ret2
        exact ⟨rfl, HBY3.out⟩
    | true =>
      replace H := ite_t H
      replace H := guard_hid H
      obtain ⟨hl_t_25, H⟩ := H
      replace H := let_hid H
      obtain ⟨t_25, ht_25, H⟩ := H
      have ct_25 := cat_rule (P := Tryd.prog) ht_25 hl_t_25
      clear hl_t_25
      have hht_25 := Lib.hid ht_25
      clear ht_25
      unfold j0 at H
      replace H := let_hid H
      obtain ⟨t_29, ht_29, H⟩ := H
      cases t_29 with
      | false =>
        replace H := ite_f H
        unfold j1 at H
        cases ret_hid H
        go_wp2_with fail
        go_ret2
        exact ⟨rfl, HBY3.out⟩
      | true =>
        replace H := ite_t H
        replace H := guard_hid H
        obtain ⟨hl_t_33, H⟩ := H
        replace H := let_hid H
        obtain ⟨t_33, ht_33, H⟩ := H
        have ct_33 := cat_rule (P := Tryd.prog) ht_33 hl_t_33
        clear hl_t_33
        have hht_33 := Lib.hid ht_33
        clear ht_33
        replace H := guard_hid H
        obtain ⟨hl_t_34, H⟩ := H
        replace H := let_hid H
        obtain ⟨t_34, ht_34, H⟩ := H
        have ct_34 := cat_rule (P := Tryd.prog) ht_34 hl_t_34
        clear hl_t_34
        have hht_34 := Lib.hid ht_34
        clear ht_34
        unfold j1 at H
        cases ret_hid H
        go_wp2_with fail
        go_ret2
        exact ⟨rfl, HBY3.out⟩
end Go.Proofs.YtfbdaedoofkcbabDoor.GiPaperText
