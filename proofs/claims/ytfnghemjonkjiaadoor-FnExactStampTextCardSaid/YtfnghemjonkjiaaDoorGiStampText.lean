/- loop.example/g01062/impl.StampText as a plain function, and the contract of the program's: where the plain one has an answer, the program has it. Conditions: slices read as lists. -/
import Derived.Test.YtfnghemjonkjiaaDoorChecked
import Derived.Test.YtfnghemjonkjiaaDoorGoM
import Derived.Test.YtfnghemjonkjiaaDoorTab
import Derived.Test.YtfnghemjonkjiaaDoorGoRStamp
import Derived.Test.YtfnghemjonkjiaaDoorGiFaceText
import Derived.Test.YtfnghemjonkjiaaDoorGxStrconvItoa
import Derived.Test.YtfnghemjonkjiaaDoorGiIsStamp
import Derived.WalkKit
import Derived.WalkSpells
import Derived.WalkLawsBesides
import Derived.BigQuiet
import Derived.OwnWalk
import Derived.Deep.LoopGhost
import Derived.Deep.QuietTactic
import Derived.IntWalk
import Derived.Lib.QuietBelow
namespace Go.Proofs.YtfnghemjonkjiaaDoor.GiStampText
set_option linter.unusedVariables false
set_option linter.unusedSimpArgs false
open Go.RowKit
open Go.Proofs.YtfnghemjonkjiaaDoor.Rowed Go.Proofs.YtfnghemjonkjiaaDoor.Turn Go.Proofs.YtfnghemjonkjiaaDoor.Aid Go.Proofs.YtfnghemjonkjiaaDoor.GoP Go.Proofs.YtfnghemjonkjiaaDoor.GoM Go.Proofs.YtfnghemjonkjiaaDoor.Tab

def P (s_0 : Go.Proofs.YtfnghemjonkjiaaDoor.PlainStamp.St) : Option (ByteArray × Bool) :=
  unStamp s_0 fun (s_0_id : Int) (s_0_face : Int) (s_0_color : Int) (s_0_year : Int) =>
  bind2 (Go.Proofs.YtfnghemjonkjiaaDoor.GiFaceText.P s_0_face) fun (t_5a : ByteArray) (t_5b : Bool) =>
  letK (!t_5b) fun (t_12 : Bool) =>
  joinK (fun (t_17 : Bool) =>
  iteK t_17
  (some ((⟨#[]⟩ : ByteArray), false))
  (Option.bind (Go.Proofs.YtfnghemjonkjiaaDoor.GxStrconvItoa.P s_0_id) fun (t_22 : ByteArray) =>
  guardK (t_22.size + (⟨#[58, 32]⟩ : ByteArray).size ≤ maxLen) <|
  letK (t_22 ++ (⟨#[58, 32]⟩ : ByteArray)) fun (t_23 : ByteArray) =>
  guardK (t_23.size + t_5a.size ≤ maxLen) <|
  letK (t_23 ++ t_5a) fun (t_25 : ByteArray) =>
  guardK (t_25.size + (⟨#[32, 99, 111, 108, 111, 114, 32]⟩ : ByteArray).size ≤ maxLen) <|
  letK (t_25 ++ (⟨#[32, 99, 111, 108, 111, 114, 32]⟩ : ByteArray)) fun (t_26 : ByteArray) =>
  Option.bind (Go.Proofs.YtfnghemjonkjiaaDoor.GxStrconvItoa.P s_0_color) fun (t_29 : ByteArray) =>
  guardK (t_26.size + t_29.size ≤ maxLen) <|
  letK (t_26 ++ t_29) fun (t_30 : ByteArray) =>
  guardK (t_30.size + (⟨#[32]⟩ : ByteArray).size ≤ maxLen) <|
  letK (t_30 ++ (⟨#[32]⟩ : ByteArray)) fun (t_31 : ByteArray) =>
  Option.bind (Go.Proofs.YtfnghemjonkjiaaDoor.GxStrconvItoa.P s_0_year) fun (t_34 : ByteArray) =>
  guardK (t_31.size + t_34.size ≤ maxLen) <|
  letK (t_31 ++ t_34) fun (t_35 : ByteArray) =>
  some (t_35, true))) fun jt_17 => iteK t_12 (appK jt_17 true) (Option.bind (Go.Proofs.YtfnghemjonkjiaaDoor.GiIsStamp.P (Go.Proofs.YtfnghemjonkjiaaDoor.PlainStamp.St.mk s_0_id s_0_face s_0_color s_0_year)) fun (t_15 : Bool) =>
  letK (!t_15) fun (t_16 : Bool) =>
  appK jt_17 t_16)

set_option maxRecDepth 100000 in
set_option maxHeartbeats 2000000 in
theorem C (s_0 : Go.Proofs.YtfnghemjonkjiaaDoor.PlainStamp.St)   (w : World) (HT : Hid (Tab w))   {r0 : ByteArray} {r1 : Bool} (H : Hid (P s_0 = some (r0, r1))) :
    Calls Tryd.prog 6 #[s_0.val] w (Gives (.tuple #[.string r0, .bool r1]) w) := by
  have HB := Lib.hid (Below.refl w.heap.size w)
  unfold P at H
  obtain ⟨s_0_id, s_0_face, s_0_color, s_0_year⟩ := s_0
  replace H := unStamp_hid H
  unfold Go.Proofs.YtfnghemjonkjiaaDoor.PlainStamp.St.val
  go_enter Tryd.func6, Tryd.ntmps6
  obtain ⟨w_s_0, hw_s_0⟩ : ∃ x, w.alloc (.cells #[.int .i64 s_0_id, .int .i64 s_0_face, .int .i64 s_0_color, .int .i64 s_0_year] 26) = x := ⟨_, rfl⟩
  have bw_s_0 : Below w.heap.size w w_s_0 := by rw [← hw_s_0]; exact (Below.refl _ _).alloc (Nat.le_refl _) _
  have HBw_s_0 := Lib.hid (Below.step HB.out bw_s_0)
  clear bw_s_0
  have ks_0_0 : w_s_0.cell? ⟨w.heap.size, 0, none⟩ = some (.int .i64 s_0_id) := by rw [← hw_s_0]; exact box_new _ _ _ 0 _ rfl
  have ks_0_1 : w_s_0.cell? ⟨w.heap.size, 1, none⟩ = some (.int .i64 s_0_face) := by rw [← hw_s_0]; exact box_new _ _ _ 1 _ rfl
  have ks_0_2 : w_s_0.cell? ⟨w.heap.size, 2, none⟩ = some (.int .i64 s_0_color) := by rw [← hw_s_0]; exact box_new _ _ _ 2 _ rfl
  have ks_0_3 : w_s_0.cell? ⟨w.heap.size, 3, none⟩ = some (.int .i64 s_0_year) := by rw [← hw_s_0]; exact box_new _ _ _ 3 _ rfl
  replace H := bind2_hid H
  obtain ⟨t_5a, t_5b, qt_5, H⟩ := H
  go_wp2_with fail
  go_at_call 9
  refine (Go.Proofs.YtfnghemjonkjiaaDoor.GiFaceText.C (s_0_face)  _ (tab_below HBw_s_0.out HT)   qt_5).mono ?_
  rintro e_t_5 wt_5 ⟨rfl, bt_5⟩
  have HBwt_5 := Lib.hid (Below.step HBw_s_0.out bt_5)
  replace ks_0_0 := cell_below bt_5 ks_0_0
  replace ks_0_1 := cell_below bt_5 ks_0_1
  replace ks_0_2 := cell_below bt_5 ks_0_2
  replace ks_0_3 := cell_below bt_5 ks_0_3
  clear bt_5
  cases t_5b with
  | false =>
    replace H := let_hid H
    obtain ⟨t_12, ht_12, H⟩ := H
    obtain rfl : t_12 = true := ht_12.symm
    replace H := join_hid H
    replace H := ite_t H
    replace H := app_hid H
    replace H := ite_t H
    cases ret_hid H
    go_wp2_with fail
    go_ret2
    exact ⟨rfl, HBwt_5.out⟩
  | true =>
    replace H := let_hid H
    obtain ⟨t_12, ht_12, H⟩ := H
    obtain rfl : t_12 = false := ht_12.symm
    replace H := join_hid H
    replace H := ite_f H
    replace H := bind_hid H
    obtain ⟨t_15, qt_15, H⟩ := H
    go_wp2_with fail
    go_at_call 10
    refine (Go.Proofs.YtfnghemjonkjiaaDoor.GiIsStamp.C ((Go.Proofs.YtfnghemjonkjiaaDoor.PlainStamp.St.mk s_0_id s_0_face s_0_color s_0_year))  _    qt_15).mono ?_
    rintro e_t_15 wt_15 ⟨rfl, bt_15⟩
    have HBwt_15 := Lib.hid (Below.step HBwt_5.out bt_15)
    replace ks_0_0 := cell_below bt_15 ks_0_0
    replace ks_0_1 := cell_below bt_15 ks_0_1
    replace ks_0_2 := cell_below bt_15 ks_0_2
    replace ks_0_3 := cell_below bt_15 ks_0_3
    clear bt_15
    cases t_15 with
    | false =>
      replace H := let_hid H
      obtain ⟨t_16, ht_16, H⟩ := H
      obtain rfl : t_16 = true := ht_16.symm
      replace H := app_hid H
      replace H := ite_t H
      cases ret_hid H
      go_wp2_with fail
      go_ret2
      exact ⟨rfl, HBwt_15.out⟩
    | true =>
      replace H := let_hid H
      obtain ⟨t_16, ht_16, H⟩ := H
      obtain rfl : t_16 = false := ht_16.symm
      replace H := app_hid H
      replace H := ite_f H
      go_wp2_with fail
      have Hks_0_0 := Lib.hid ks_0_0
      replace ks_0_0 := cell_regrown ks_0_0
      have Hks_0_1 := Lib.hid ks_0_1
      replace ks_0_1 := cell_regrown ks_0_1
      have Hks_0_2 := Lib.hid ks_0_2
      replace ks_0_2 := cell_regrown ks_0_2
      have Hks_0_3 := Lib.hid ks_0_3
      replace ks_0_3 := cell_regrown ks_0_3
      replace H := bind_hid H
      obtain ⟨t_22, qt_22, H⟩ := H
      have nt_22 : ∀ d os, Calls Tryd.prog 11 #[.int .i64 s_0_id] (Go.Sort.grow (redrawn wt_15 d) os) fun e w'' => e = .returned (.string t_22) ∧ ∃ p : Regrown, w'' = Go.Sort.grow (redrawn wt_15 p.d) p.os := fun d os => Calls.regrown_of (Go.Proofs.YtfnghemjonkjiaaDoor.GxStrconvItoa.C (s_0_id)  _ (tab_below (below_regrown _ _ _) (tab_below HBwt_15.out HT))   qt_22)
      replace H := guard_hid H
      obtain ⟨hl_t_23, H⟩ := H
      replace H := let_hid H
      obtain ⟨t_23, ht_23, H⟩ := H
      have ct_23 := cat_rule (P := Tryd.prog) ht_23 hl_t_23
      clear hl_t_23
      have hht_23 := Lib.hid ht_23
      clear ht_23
      replace H := guard_hid H
      obtain ⟨hl_t_25, H⟩ := H
      replace H := let_hid H
      obtain ⟨t_25, ht_25, H⟩ := H
      have ct_25 := cat_rule (P := Tryd.prog) ht_25 hl_t_25
      clear hl_t_25
      have hht_25 := Lib.hid ht_25
      clear ht_25
      replace H := guard_hid H
      obtain ⟨hl_t_26, H⟩ := H
      replace H := let_hid H
      obtain ⟨t_26, ht_26, H⟩ := H
      have ct_26 := cat_rule (P := Tryd.prog) ht_26 hl_t_26
      clear hl_t_26
      have hht_26 := Lib.hid ht_26
      clear ht_26
      replace H := bind_hid H
      obtain ⟨t_29, qt_29, H⟩ := H
      have nt_29 : ∀ d os, Calls Tryd.prog 11 #[.int .i64 s_0_color] (Go.Sort.grow (redrawn wt_15 d) os) fun e w'' => e = .returned (.string t_29) ∧ ∃ p : Regrown, w'' = Go.Sort.grow (redrawn wt_15 p.d) p.os := fun d os => Calls.regrown_of (Go.Proofs.YtfnghemjonkjiaaDoor.GxStrconvItoa.C (s_0_color)  _ (tab_below (below_regrown _ _ _) (tab_below HBwt_15.out HT))   qt_29)
      replace H := guard_hid H
      obtain ⟨hl_t_30, H⟩ := H
      replace H := let_hid H
      obtain ⟨t_30, ht_30, H⟩ := H
      have ct_30 := cat_rule (P := Tryd.prog) ht_30 hl_t_30
      clear hl_t_30
      have hht_30 := Lib.hid ht_30
      clear ht_30
      replace H := guard_hid H
      obtain ⟨hl_t_31, H⟩ := H
      replace H := let_hid H
      obtain ⟨t_31, ht_31, H⟩ := H
      have ct_31 := cat_rule (P := Tryd.prog) ht_31 hl_t_31
      clear hl_t_31
      have hht_31 := Lib.hid ht_31
      clear ht_31
      replace H := bind_hid H
      obtain ⟨t_34, qt_34, H⟩ := H
      have nt_34 : ∀ d os, Calls Tryd.prog 11 #[.int .i64 s_0_year] (Go.Sort.grow (redrawn wt_15 d) os) fun e w'' => e = .returned (.string t_34) ∧ ∃ p : Regrown, w'' = Go.Sort.grow (redrawn wt_15 p.d) p.os := fun d os => Calls.regrown_of (Go.Proofs.YtfnghemjonkjiaaDoor.GxStrconvItoa.C (s_0_year)  _ (tab_below (below_regrown _ _ _) (tab_below HBwt_15.out HT))   qt_34)
      replace H := guard_hid H
      obtain ⟨hl_t_35, H⟩ := H
      replace H := let_hid H
      obtain ⟨t_35, ht_35, H⟩ := H
      have ct_35 := cat_rule (P := Tryd.prog) ht_35 hl_t_35
      clear hl_t_35
      have hht_35 := Lib.hid ht_35
      clear ht_35
      refine wp_region_quiet_below (by kernel_rfl) (by kernel_rfl) ?_
      repeat (go_big_quiet_step (first | (go_at_call 11; with_reducible exact nt_22 _ _) | (go_at_call 11; with_reducible exact nt_29 _ _) | (go_at_call 11; with_reducible exact nt_34 _ _) | (go_at_call 11; exact nt_22 _ _) | (go_at_call 11; exact nt_29 _ _) | (go_at_call 11; exact nt_34 _ _)))
      refine wpQuiet_nil ?_
      intro Y4 hY4
      replace hY4 := below_class hY4
      clear nt_22 nt_29 nt_34
      replace ks_0_0 := Hks_0_0.out
      clear Hks_0_0
      replace ks_0_1 := Hks_0_1.out
      clear Hks_0_1
      replace ks_0_2 := Hks_0_2.out
      clear Hks_0_2
      replace ks_0_3 := Hks_0_3.out
      clear Hks_0_3
      have HBY4 := Lib.hid (Below.step HBwt_15.out hY4)
      replace ks_0_0 := cell_below hY4 ks_0_0
      replace ks_0_1 := cell_below hY4 ks_0_1
      replace ks_0_2 := cell_below hY4 ks_0_2
      replace ks_0_3 := cell_below hY4 ks_0_3
      clear hY4
      cases ret_hid H
      go_wp2_with fail
      go_ret2
      exact ⟨rfl, HBY4.out⟩
end Go.Proofs.YtfnghemjonkjiaaDoor.GiStampText
