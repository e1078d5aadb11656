/- loop.example/g01062/spec.l3Text as a plain function, and the contract of the program's: where the plain one has an answer, the program has it. Conditions: slices read as lists. -/
import Derived.Test.YtfbdaedoofkcbabDoorChecked
import Derived.Test.YtfbdaedoofkcbabDoorGoM
import Derived.Test.YtfbdaedoofkcbabDoorGoRPaper
import Derived.Test.YtfbdaedoofkcbabDoorGsL1Num
import Derived.WalkKit
import Derived.WalkSpells
import Derived.WalkLawsBesides
import Derived.BigQuiet
import Derived.OwnWalk
import Derived.Deep.LoopGhost
import Derived.Deep.QuietTactic
import Derived.IntWalk
import Derived.Lib.QuietBelow
namespace Go.Proofs.YtfbdaedoofkcbabDoor.GsL3Text
set_option linter.unusedVariables false
set_option linter.unusedSimpArgs false
open Go.RowKit
open Go.Proofs.YtfbdaedoofkcbabDoor.Rowed Go.Proofs.YtfbdaedoofkcbabDoor.Turn Go.Proofs.YtfbdaedoofkcbabDoor.Aid Go.Proofs.YtfbdaedoofkcbabDoor.GoP Go.Proofs.YtfbdaedoofkcbabDoor.GoM

def j1  (s : ByteArray) : Option (ByteArray) :=
  some s

def j0 (p_mark : ByteArray) (s : ByteArray) : Option (ByteArray) :=
  letK (!p_mark.toList.isEmpty) fun (t_23 : Bool) =>
  iteK t_23
  (guardK (s.size + (⟨#[32, 119, 109, 107, 32]⟩ : ByteArray).size ≤ maxLen) <|
  letK (s ++ (⟨#[32, 119, 109, 107, 32]⟩ : ByteArray)) fun (t_25 : ByteArray) =>
  guardK (t_25.size + p_mark.size ≤ maxLen) <|
  letK (t_25 ++ p_mark) fun (t_28 : ByteArray) =>
  j1  (t_28))
  (j1  (s))

def P (p : Go.Proofs.YtfbdaedoofkcbabDoor.PPaper.Paper) : Option (ByteArray) :=
  unPaper p fun (p_id : Int) (p_thick : Int) (p_tint : Int) (p_mark : ByteArray) (p_laid : Bool) =>
  Option.bind (Go.Proofs.YtfbdaedoofkcbabDoor.GsL1Num.P p_id) fun (t_4 : ByteArray) =>
  guardK (t_4.size + (⟨#[32]⟩ : ByteArray).size ≤ maxLen) <|
  letK (t_4 ++ (⟨#[32]⟩ : ByteArray)) fun (t_5 : ByteArray) =>
  Option.bind (Go.Proofs.YtfbdaedoofkcbabDoor.GsL1Num.P p_thick) fun (t_8 : ByteArray) =>
  guardK (t_5.size + t_8.size ≤ maxLen) <|
  letK (t_5 ++ t_8) fun (t_9 : ByteArray) =>
  guardK (t_9.size + (⟨#[117, 109, 32, 116]⟩ : ByteArray).size ≤ maxLen) <|
  letK (t_9 ++ (⟨#[117, 109, 32, 116]⟩ : ByteArray)) fun (t_10 : ByteArray) =>
  Option.bind (Go.Proofs.YtfbdaedoofkcbabDoor.GsL1Num.P p_tint) fun (t_13 : ByteArray) =>
  guardK (t_10.size + t_13.size ≤ maxLen) <|
  letK (t_10 ++ t_13) fun (t_14 : ByteArray) =>
  iteK p_laid
  (guardK (t_14.size + (⟨#[32, 108, 97, 105, 100]⟩ : ByteArray).size ≤ maxLen) <|
  letK (t_14 ++ (⟨#[32, 108, 97, 105, 100]⟩ : ByteArray)) fun (t_19 : ByteArray) =>
  j0 p_mark (t_19))
  (j0 p_mark (t_14))

set_option maxRecDepth 100000 in
set_option maxHeartbeats 2000000 in
theorem C (p : Go.Proofs.YtfbdaedoofkcbabDoor.PPaper.Paper)   (w : World)   {r : ByteArray} (H : Hid (P p = some r)) :
    Calls Tryd.prog 18 #[p.val] w (Gives (.string r) w) := by
  have HB := Lib.hid (Below.refl w.heap.size w)
  unfold P at H
  obtain ⟨p_id, p_thick, p_tint, p_mark, p_laid⟩ := p
  replace H := unPaper_hid H
  unfold Go.Proofs.YtfbdaedoofkcbabDoor.PPaper.Paper.val
  go_enter Tryd.func18, Tryd.ntmps18
  obtain ⟨w_p_0, hw_p_0⟩ : ∃ x, w.alloc (.cells #[.int .i64 p_id, .int .i64 p_thick, .int .i64 p_tint, .string p_mark, .bool p_laid] 33) = x := ⟨_, rfl⟩
  have bw_p_0 : Below w.heap.size w w_p_0 := by rw [← hw_p_0]; exact (Below.refl _ _).alloc (Nat.le_refl _) _
  have HBw_p_0 := Lib.hid (Below.step HB.out bw_p_0)
  clear bw_p_0
  have kp_0_0 : w_p_0.cell? ⟨w.heap.size, 0, none⟩ = some (.int .i64 p_id) := by rw [← hw_p_0]; exact box_new _ _ _ 0 _ rfl
  have kp_0_1 : w_p_0.cell? ⟨w.heap.size, 1, none⟩ = some (.int .i64 p_thick) := by rw [← hw_p_0]; exact box_new _ _ _ 1 _ rfl
  have kp_0_2 : w_p_0.cell? ⟨w.heap.size, 2, none⟩ = some (.int .i64 p_tint) := by rw [← hw_p_0]; exact box_new _ _ _ 2 _ rfl
  have kp_0_3 : w_p_0.cell? ⟨w.heap.size, 3, none⟩ = some (.string p_mark) := by rw [← hw_p_0]; exact box_new _ _ _ 3 _ rfl
  have kp_0_4 : w_p_0.cell? ⟨w.heap.size, 4, none⟩ = some (.bool p_laid) := by rw [← hw_p_0]; exact box_new _ _ _ 4 _ rfl
  go_wp2_with fail
  have Hkp_0_0 := Lib.hid kp_0_0
  replace kp_0_0 := cell_regrown kp_0_0
  have Hkp_0_1 := Lib.hid kp_0_1
  replace kp_0_1 := cell_regrown kp_0_1
  have Hkp_0_2 := Lib.hid kp_0_2
  replace kp_0_2 := cell_regrown kp_0_2
  have Hkp_0_3 := Lib.hid kp_0_3
  replace kp_0_3 := cell_regrown kp_0_3
  have Hkp_0_4 := Lib.hid kp_0_4
  replace kp_0_4 := cell_regrown kp_0_4
  replace H := bind_hid H
  obtain ⟨t_4, qt_4, H⟩ := H
  have nt_4 : ∀ d os, Calls Tryd.prog 22 #[.int .i64 p_id] (Go.Sort.grow (redrawn w_p_0 d) os) fun e w'' => e = .returned (.string t_4) ∧ ∃ p : Regrown, w'' = Go.Sort.grow (redrawn w_p_0 p.d) p.os := fun d os => Calls.regrown_of (Go.Proofs.YtfbdaedoofkcbabDoor.GsL1Num.C (p_id)  _   qt_4)
  replace H := guard_hid H
  obtain ⟨hl_t_5, H⟩ := H
  replace H := let_hid H
  obtain ⟨t_5, ht_5, H⟩ := H
  have ct_5 := cat_rule (P := Tryd.prog) ht_5 hl_t_5
  clear hl_t_5
  have hht_5 := Lib.hid ht_5
  clear ht_5
  replace H := bind_hid H
  obtain ⟨t_8, qt_8, H⟩ := H
  have nt_8 : ∀ d os, Calls Tryd.prog 22 #[.int .i64 p_thick] (Go.Sort.grow (redrawn w_p_0 d) os) fun e w'' => e = .returned (.string t_8) ∧ ∃ p : Regrown, w'' = Go.Sort.grow (redrawn w_p_0 p.d) p.os := fun d os => Calls.regrown_of (Go.Proofs.YtfbdaedoofkcbabDoor.GsL1Num.C (p_thick)  _   qt_8)
  replace H := guard_hid H
  obtain ⟨hl_t_9, H⟩ := H
  replace H := let_hid H
  obtain ⟨t_9, ht_9, H⟩ := H
  have ct_9 := cat_rule (P := Tryd.prog) ht_9 hl_t_9
  clear hl_t_9
  have hht_9 := Lib.hid ht_9
  clear ht_9
  replace H := guard_hid H
  obtain ⟨hl_t_10, H⟩ := H
  replace H := let_hid H
  obtain ⟨t_10, ht_10, H⟩ := H
  have ct_10 := cat_rule (P := Tryd.prog) ht_10 hl_t_10
  clear hl_t_10
  have hht_10 := Lib.hid ht_10
  clear ht_10
  replace H := bind_hid H
  obtain ⟨t_13, qt_13, H⟩ := H
  have nt_13 : ∀ d os, Calls Tryd.prog 22 #[.int .i64 p_tint] (Go.Sort.grow (redrawn w_p_0 d) os) fun e w'' => e = .returned (.string t_13) ∧ ∃ p : Regrown, w'' = Go.Sort.grow (redrawn w_p_0 p.d) p.os := fun d os => Calls.regrown_of (Go.Proofs.YtfbdaedoofkcbabDoor.GsL1Num.C (p_tint)  _   qt_13)
  replace H := guard_hid H
  obtain ⟨hl_t_14, H⟩ := H
  replace H := let_hid H
  obtain ⟨t_14, ht_14, H⟩ := H
  have ct_14 := cat_rule (P := Tryd.prog) ht_14 hl_t_14
  clear hl_t_14
  have hht_14 := Lib.hid ht_14
  clear ht_14
  refine wp_region_quiet_below (by kernel_rfl) (by kernel_rfl) ?_
  repeat (go_big_quiet_step (first | (go_at_call 22; with_reducible exact nt_4 _ _) | (go_at_call 22; with_reducible exact nt_8 _ _) | (go_at_call 22; with_reducible exact nt_13 _ _) | (go_at_call 22; exact nt_4 _ _) | (go_at_call 22; exact nt_8 _ _) | (go_at_call 22; exact nt_13 _ _)))
  refine wpQuiet_nil ?_
  intro Y1 hY1
  replace hY1 := below_class hY1
  clear nt_4 nt_8 nt_13
  replace kp_0_0 := Hkp_0_0.out
  clear Hkp_0_0
  replace kp_0_1 := Hkp_0_1.out
  clear Hkp_0_1
  replace kp_0_2 := Hkp_0_2.out
  clear Hkp_0_2
  replace kp_0_3 := Hkp_0_3.out
  clear Hkp_0_3
  replace kp_0_4 := Hkp_0_4.out
  clear Hkp_0_4
  have HBY1 := Lib.hid (Below.step HBw_p_0.out hY1)
  replace kp_0_0 := cell_below hY1 kp_0_0
  replace kp_0_1 := cell_below hY1 kp_0_1
  replace kp_0_2 := cell_below hY1 kp_0_2
  replace kp_0_3 := cell_below hY1 kp_0_3
  replace kp_0_4 := cell_below hY1 kp_0_4
  clear hY1
  cases p_laid with
  | false =>
    replace H := ite_f H
    unfold j0 at H
    replace H := let_hid H
    obtain ⟨t_23, ht_23, H⟩ := H
    cases t_23 with
    | false =>
      replace H := ite_f H
      unfold j1 at H
      obtain rfl := ret_hid H
      go_wp2_with fail
      go_ret
      exact ⟨rfl, HBY1.out⟩
    | true =>
      replace H := ite_t H
      replace H := guard_hid H
      obtain ⟨hl_t_25, H⟩ := H
      replace H := let_hid H
      obtain ⟨t_25, ht_25, H⟩ := H
      have ct_25 := cat_rule (P := Tryd.prog) ht_25 hl_t_25
      clear hl_t_25
      have hht_25 := Lib.hid ht_25
      clear ht_25
      replace H := guard_hid H
      obtain ⟨hl_t_28, H⟩ := H
      replace H := let_hid H
      obtain ⟨t_28, ht_28, H⟩ := H
      have ct_28 := cat_rule (P := Tryd.prog) ht_28 hl_t_28
      clear hl_t_28
      have hht_28 := Lib.hid ht_28
      clear ht_28
      unfold j1 at H
      obtain rfl := ret_hid H
      go_wp2_with fail
      go_ret
      exact ⟨rfl, HBY1.out⟩
  | true =>
    replace H := ite_t H
    replace H := guard_hid H
    obtain ⟨hl_t_19, H⟩ := H
    replace H := let_hid H
    obtain ⟨t_19, ht_19, H⟩ := H
    have ct_19 := cat_rule (P := Tryd.prog) ht_19 hl_t_19
    clear hl_t_19
    have hht_19 := Lib.hid ht_19
    clear ht_19
    unfold j0 at H
    replace H := let_hid H
    obtain ⟨t_23, ht_23, H⟩ := H
    cases t_23 with
    | false =>
      replace H := ite_f H
      unfold j1 at H
      obtain rfl := ret_hid H
      go_wp2_with fail
      go_ret
      exact ⟨rfl, HBY1.out⟩
    | true =>
      replace H := ite_t H
      replace H := guard_hid H
      obtain ⟨hl_t_25, H⟩ := H
      replace H := let_hid H
      obtain ⟨t_25, ht_25, H⟩ := H
      have ct_25 := cat_rule (P := Tryd.prog) ht_25 hl_t_25
      clear hl_t_25
      have hht_25 := Lib.hid ht_25
      clear ht_25
      replace H := guard_hid H
      obtain ⟨hl_t_28, H⟩ := H
      replace H := let_hid H
      obtain ⟨t_28, ht_28, H⟩ := H
      have ct_28 := cat_rule (P := Tryd.prog) ht_28 hl_t_28
      clear hl_t_28
      have hht_28 := Lib.hid ht_28
      clear ht_28
      unfold j1 at H
      obtain rfl := ret_hid H
      go_wp2_with fail
      go_ret
      exact ⟨rfl, HBY1.out⟩
end Go.Proofs.YtfbdaedoofkcbabDoor.GsL3Text
