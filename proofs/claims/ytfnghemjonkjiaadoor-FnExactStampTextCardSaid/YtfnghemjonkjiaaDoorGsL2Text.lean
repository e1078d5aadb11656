/- loop.example/g01062/spec.l2Text as a plain function, and the contract of the program's: where the plain one has an answer, the program has it. Conditions: slices read as lists. -/
import Derived.Test.YtfnghemjonkjiaaDoorChecked
import Derived.Test.YtfnghemjonkjiaaDoorGoM
import Derived.Test.YtfnghemjonkjiaaDoorGoRStamp
import Derived.Test.YtfnghemjonkjiaaDoorGsL1Num
import Derived.Test.YtfnghemjonkjiaaDoorGsL2Face
import Derived.WalkKit
import Derived.WalkSpells
import Derived.WalkLawsBesides
import Derived.BigQuiet
import Derived.OwnWalk
import Derived.Deep.LoopGhost
import Derived.Deep.QuietTactic
import Derived.IntWalk
import Derived.Lib.QuietBelow
namespace Go.Proofs.YtfnghemjonkjiaaDoor.GsL2Text
set_option linter.unusedVariables false
set_option linter.unusedSimpArgs false
open Go.RowKit
open Go.Proofs.YtfnghemjonkjiaaDoor.Rowed Go.Proofs.YtfnghemjonkjiaaDoor.Turn Go.Proofs.YtfnghemjonkjiaaDoor.Aid Go.Proofs.YtfnghemjonkjiaaDoor.GoP Go.Proofs.YtfnghemjonkjiaaDoor.GoM

def P (s_0 : Go.Proofs.YtfnghemjonkjiaaDoor.PlainStamp.St) : Option (ByteArray) :=
  unStamp s_0 fun (s_0_id : Int) (s_0_face : Int) (s_0_color : Int) (s_0_year : Int) =>
  Option.bind (Go.Proofs.YtfnghemjonkjiaaDoor.GsL1Num.P s_0_id) fun (t_4 : ByteArray) =>
  guardK (t_4.size + (⟨#[58, 32]⟩ : ByteArray).size ≤ maxLen) <|
  letK (t_4 ++ (⟨#[58, 32]⟩ : ByteArray)) fun (t_5 : ByteArray) =>
  Option.bind (Go.Proofs.YtfnghemjonkjiaaDoor.GsL2Face.P s_0_face) fun (t_8 : ByteArray) =>
  guardK (t_5.size + t_8.size ≤ maxLen) <|
  letK (t_5 ++ t_8) fun (t_9 : ByteArray) =>
  guardK (t_9.size + (⟨#[32, 99, 111, 108, 111, 114, 32]⟩ : ByteArray).size ≤ maxLen) <|
  letK (t_9 ++ (⟨#[32, 99, 111, 108, 111, 114, 32]⟩ : ByteArray)) fun (t_10 : ByteArray) =>
  Option.bind (Go.Proofs.YtfnghemjonkjiaaDoor.GsL1Num.P s_0_color) fun (t_13 : ByteArray) =>
  guardK (t_10.size + t_13.size ≤ maxLen) <|
  letK (t_10 ++ t_13) fun (t_14 : ByteArray) =>
  guardK (t_14.size + (⟨#[32]⟩ : ByteArray).size ≤ maxLen) <|
  letK (t_14 ++ (⟨#[32]⟩ : ByteArray)) fun (t_15 : ByteArray) =>
  Option.bind (Go.Proofs.YtfnghemjonkjiaaDoor.GsL1Num.P s_0_year) fun (t_18 : ByteArray) =>
  guardK (t_15.size + t_18.size ≤ maxLen) <|
  letK (t_15 ++ t_18) fun (t_19 : ByteArray) =>
  some t_19

set_option maxRecDepth 100000 in
set_option maxHeartbeats 2000000 in
theorem C (s_0 : Go.Proofs.YtfnghemjonkjiaaDoor.PlainStamp.St)   (w : World)   {r : ByteArray} (H : Hid (P s_0 = some r)) :
    Calls Tryd.prog 8 #[s_0.val] w (Gives (.string r) w) := by
  have HB := Lib.hid (Below.refl w.heap.size w)
  unfold P at H
  obtain ⟨s_0_id, s_0_face, s_0_color, s_0_year⟩ := s_0
  replace H := unStamp_hid H
  unfold Go.Proofs.YtfnghemjonkjiaaDoor.PlainStamp.St.val
  go_enter Tryd.func8, Tryd.ntmps8
  obtain ⟨w_s_0, hw_s_0⟩ : ∃ x, w.alloc (.cells #[.int .i64 s_0_id, .int .i64 s_0_face, .int .i64 s_0_color, .int .i64 s_0_year] 26) = x := ⟨_, rfl⟩
  have bw_s_0 : Below w.heap.size w w_s_0 := by rw [← hw_s_0]; exact (Below.refl _ _).alloc (Nat.le_refl _) _
  have HBw_s_0 := Lib.hid (Below.step HB.out bw_s_0)
  clear bw_s_0
  have ks_0_0 : w_s_0.cell? ⟨w.heap.size, 0, none⟩ = some (.int .i64 s_0_id) := by rw [← hw_s_0]; exact box_new _ _ _ 0 _ rfl
  have ks_0_1 : w_s_0.cell? ⟨w.heap.size, 1, none⟩ = some (.int .i64 s_0_face) := by rw [← hw_s_0]; exact box_new _ _ _ 1 _ rfl
  have ks_0_2 : w_s_0.cell? ⟨w.heap.size, 2, none⟩ = some (.int .i64 s_0_color) := by rw [← hw_s_0]; exact box_new _ _ _ 2 _ rfl
  have ks_0_3 : w_s_0.cell? ⟨w.heap.size, 3, none⟩ = some (.int .i64 s_0_year) := by rw [← hw_s_0]; exact box_new _ _ _ 3 _ rfl
  go_wp2_with fail
  have Hks_0_0 := Lib.hid ks_0_0
  replace ks_0_0 := cell_regrown ks_0_0
  have Hks_0_1 := Lib.hid ks_0_1
  replace ks_0_1 := cell_regrown ks_0_1
  have Hks_0_2 := Lib.hid ks_0_2
  replace ks_0_2 := cell_regrown ks_0_2
  have Hks_0_3 := Lib.hid ks_0_3
  replace ks_0_3 := cell_regrown ks_0_3
  replace H := bind_hid H
  obtain ⟨t_4, qt_4, H⟩ := H
  have nt_4 : ∀ d os, Calls Tryd.prog 14 #[.int .i64 s_0_id] (Go.Sort.grow (redrawn w_s_0 d) os) fun e w'' => e = .returned (.string t_4) ∧ ∃ p : Regrown, w'' = Go.Sort.grow (redrawn w_s_0 p.d) p.os := fun d os => Calls.regrown_of (Go.Proofs.YtfnghemjonkjiaaDoor.GsL1Num.C (s_0_id)  _    qt_4)
  replace H := guard_hid H
  obtain ⟨hl_t_5, H⟩ := H
  replace H := let_hid H
  obtain ⟨t_5, ht_5, H⟩ := H
  have ct_5 := cat_rule (P := Tryd.prog) ht_5 hl_t_5
  clear hl_t_5
  have hht_5 := Lib.hid ht_5
  clear ht_5
  replace H := bind_hid H
  obtain ⟨t_8, qt_8, H⟩ := H
  have nt_8 : ∀ d os, Calls Tryd.prog 15 #[.int .i64 s_0_face] (Go.Sort.grow (redrawn w_s_0 d) os) fun e w'' => e = .returned (.string t_8) ∧ ∃ p : Regrown, w'' = Go.Sort.grow (redrawn w_s_0 p.d) p.os := fun d os => Calls.regrown_of (Go.Proofs.YtfnghemjonkjiaaDoor.GsL2Face.C (s_0_face)  _    qt_8)
  replace H := guard_hid H
  obtain ⟨hl_t_9, H⟩ := H
  replace H := let_hid H
  obtain ⟨t_9, ht_9, H⟩ := H
  have ct_9 := cat_rule (P := Tryd.prog) ht_9 hl_t_9
  clear hl_t_9
  have hht_9 := Lib.hid ht_9
  clear ht_9
  replace H := guard_hid H
  obtain ⟨hl_t_10, H⟩ := H
  replace H := let_hid H
  obtain ⟨t_10, ht_10, H⟩ := H
  have ct_10 := cat_rule (P := Tryd.prog) ht_10 hl_t_10
  clear hl_t_10
  have hht_10 := Lib.hid ht_10
  clear ht_10
  replace H := bind_hid H
  obtain ⟨t_13, qt_13, H⟩ := H
  have nt_13 : ∀ d os, Calls Tryd.prog 14 #[.int .i64 s_0_color] (Go.Sort.grow (redrawn w_s_0 d) os) fun e w'' => e = .returned (.string t_13) ∧ ∃ p : Regrown, w'' = Go.Sort.grow (redrawn w_s_0 p.d) p.os := fun d os => Calls.regrown_of (Go.Proofs.YtfnghemjonkjiaaDoor.GsL1Num.C (s_0_color)  _    qt_13)
  replace H := guard_hid H
  obtain ⟨hl_t_14, H⟩ := H
  replace H := let_hid H
  obtain ⟨t_14, ht_14, H⟩ := H
  have ct_14 := cat_rule (P := Tryd.prog) ht_14 hl_t_14
  clear hl_t_14
  have hht_14 := Lib.hid ht_14
  clear ht_14
  replace H := guard_hid H
  obtain ⟨hl_t_15, H⟩ := H
  replace H := let_hid H
  obtain ⟨t_15, ht_15, H⟩ := H
  have ct_15 := cat_rule (P := Tryd.prog) ht_15 hl_t_15
  clear hl_t_15
  have hht_15 := Lib.hid ht_15
  clear ht_15
  replace H := bind_hid H
  obtain ⟨t_18, qt_18, H⟩ := H
  have nt_18 : ∀ d os, Calls Tryd.prog 14 #[.int .i64 s_0_year] (Go.Sort.grow (redrawn w_s_0 d) os) fun e w'' => e = .returned (.string t_18) ∧ ∃ p : Regrown, w'' = Go.Sort.grow (redrawn w_s_0 p.d) p.os := fun d os => Calls.regrown_of (Go.Proofs.YtfnghemjonkjiaaDoor.GsL1Num.C (s_0_year)  _    qt_18)
  replace H := guard_hid H
  obtain ⟨hl_t_19, H⟩ := H
  replace H := let_hid H
  obtain ⟨t_19, ht_19, H⟩ := H
  have ct_19 := cat_rule (P := Tryd.prog) ht_19 hl_t_19
  clear hl_t_19
  have hht_19 := Lib.hid ht_19
  clear ht_19
  refine wp_region_quiet_below (by kernel_rfl) (by kernel_rfl) ?_
  repeat (go_big_quiet_step (first | (go_at_call 14; with_reducible exact nt_4 _ _) | (go_at_call 14; with_reducible exact nt_13 _ _) | (go_at_call 14; with_reducible exact nt_18 _ _) | (go_at_call 14; exact nt_4 _ _) | (go_at_call 15; exact nt_8 _ _) | (go_at_call 14; exact nt_13 _ _) | (go_at_call 14; exact nt_18 _ _)))
  refine wpQuiet_nil ?_
  intro Y1 hY1
  replace hY1 := below_class hY1
  clear nt_4 nt_8 nt_13 nt_18
  replace ks_0_0 := Hks_0_0.out
  clear Hks_0_0
  replace ks_0_1 := Hks_0_1.out
  clear Hks_0_1
  replace ks_0_2 := Hks_0_2.out
  clear Hks_0_2
  replace ks_0_3 := Hks_0_3.out
  clear Hks_0_3
  have HBY1 := Lib.hid (Below.step HBw_s_0.out hY1)
  replace ks_0_0 := cell_below hY1 ks_0_0
  replace ks_0_1 := cell_below hY1 ks_0_1
  replace ks_0_2 := cell_below hY1 ks_0_2
  replace ks_0_3 := cell_below hY1 ks_0_3
  clear hY1
  obtain rfl := ret_hid H
  go_wp2_with fail
  go_ret
  exact ⟨rfl, HBY1.out⟩
end Go.Proofs.YtfnghemjonkjiaaDoor.GsL2Text
