/- loop.example/g01062/spec.MailText as a plain function, and the contract of the program's: where the plain one has an answer, the program has it. Conditions: slices read as lists. -/
import Derived.Test.YtfjcibkgbalkaaaDoorChecked
import Derived.Test.YtfjcibkgbalkaaaDoorGoM
import Derived.Test.YtfjcibkgbalkaaaDoorGoRMail
import Derived.Test.YtfjcibkgbalkaaaDoorGsL9One
import Derived.Test.YtfjcibkgbalkaaaDoorGsL1Num
import Derived.WalkKit
import Derived.WalkSpells
import Derived.WalkLawsBesides
import Derived.BigQuiet
import Derived.OwnWalk
import Derived.Deep.LoopGhost
import Derived.Deep.QuietTactic
import Derived.IntWalk
import Derived.Lib.QuietBelow
namespace Go.Proofs.YtfjcibkgbalkaaaDoor.GsMailText
set_option linter.unusedVariables false
set_option linter.unusedSimpArgs false
open Go.RowKit
open Go.Proofs.YtfjcibkgbalkaaaDoor.Rowed Go.Proofs.YtfjcibkgbalkaaaDoor.Turn Go.Proofs.YtfjcibkgbalkaaaDoor.Aid Go.Proofs.YtfjcibkgbalkaaaDoor.GoP Go.Proofs.YtfjcibkgbalkaaaDoor.GoM

def P (x : Go.Proofs.YtfjcibkgbalkaaaDoor.PMail.Mail) : Option (ByteArray × Bool) :=
  unMail x fun (x_leave : Int) (x_from_ : Int) (x_to_ : Int) (x_arrive : Int) =>
  Option.bind (Go.Proofs.YtfjcibkgbalkaaaDoor.GsL9One.P (Go.Proofs.YtfjcibkgbalkaaaDoor.PMail.Mail.mk x_leave x_from_ x_to_ x_arrive)) fun (t_4 : Bool) =>
  letK (!t_4) fun (t_5 : Bool) =>
  iteK t_5
  (some ((⟨#[]⟩ : ByteArray), false))
  (Option.bind (Go.Proofs.YtfjcibkgbalkaaaDoor.GsL1Num.P x_from_) fun (t_10 : ByteArray) =>
  guardK (t_10.size + (⟨#[62]⟩ : ByteArray).size ≤ maxLen) <|
  letK (t_10 ++ (⟨#[62]⟩ : ByteArray)) fun (t_11 : ByteArray) =>
  Option.bind (Go.Proofs.YtfjcibkgbalkaaaDoor.GsL1Num.P x_to_) fun (t_14 : ByteArray) =>
  guardK (t_11.size + t_14.size ≤ maxLen) <|
  letK (t_11 ++ t_14) fun (t_15 : ByteArray) =>
  guardK (t_15.size + (⟨#[32]⟩ : ByteArray).size ≤ maxLen) <|
  letK (t_15 ++ (⟨#[32]⟩ : ByteArray)) fun (t_16 : ByteArray) =>
  Option.bind (Go.Proofs.YtfjcibkgbalkaaaDoor.GsL1Num.P x_leave) fun (t_19 : ByteArray) =>
  guardK (t_16.size + t_19.size ≤ maxLen) <|
  letK (t_16 ++ t_19) fun (t_20 : ByteArray) =>
  guardK (t_20.size + (⟨#[45]⟩ : ByteArray).size ≤ maxLen) <|
  letK (t_20 ++ (⟨#[45]⟩ : ByteArray)) fun (t_21 : ByteArray) =>
  Option.bind (Go.Proofs.YtfjcibkgbalkaaaDoor.GsL1Num.P x_arrive) fun (t_24 : ByteArray) =>
  guardK (t_21.size + t_24.size ≤ maxLen) <|
  letK (t_21 ++ t_24) fun (t_25 : ByteArray) =>
  some (t_25, true))

set_option maxRecDepth 100000 in
set_option maxHeartbeats 2000000 in
theorem C (x : Go.Proofs.YtfjcibkgbalkaaaDoor.PMail.Mail)   (w : World)   {r0 : ByteArray} {r1 : Bool} (H : Hid (P x = some (r0, r1))) :
    Calls Tryd.prog 38 #[x.val] w (Gives (.tuple #[.string r0, .bool r1]) w) := by
  have HB := Lib.hid (Below.refl w.heap.size w)
  unfold P at H
  obtain ⟨x_leave, x_from_, x_to_, x_arrive⟩ := x
  replace H := unMail_hid H
  unfold Go.Proofs.YtfjcibkgbalkaaaDoor.PMail.Mail.val
  go_enter Tryd.func38, Tryd.ntmps38
  obtain ⟨w_x_0, hw_x_0⟩ : ∃ x, w.alloc (.cells #[.int .i64 x_leave, .int .i64 x_from_, .int .i64 x_to_, .int .i64 x_arrive] 54) = x := ⟨_, rfl⟩
  have bw_x_0 : Below w.heap.size w w_x_0 := by rw [← hw_x_0]; exact (Below.refl _ _).alloc (Nat.le_refl _) _
  have HBw_x_0 := Lib.hid (Below.step HB.out bw_x_0)
  clear bw_x_0
  have kx_0_0 : w_x_0.cell? ⟨w.heap.size, 0, none⟩ = some (.int .i64 x_leave) := by rw [← hw_x_0]; exact box_new _ _ _ 0 _ rfl
  have kx_0_1 : w_x_0.cell? ⟨w.heap.size, 1, none⟩ = some (.int .i64 x_from_) := by rw [← hw_x_0]; exact box_new _ _ _ 1 _ rfl
  have kx_0_2 : w_x_0.cell? ⟨w.heap.size, 2, none⟩ = some (.int .i64 x_to_) := by rw [← hw_x_0]; exact box_new _ _ _ 2 _ rfl
  have kx_0_3 : w_x_0.cell? ⟨w.heap.size, 3, none⟩ = some (.int .i64 x_arrive) := by rw [← hw_x_0]; exact box_new _ _ _ 3 _ rfl
  replace H := bind_hid H
  obtain ⟨t_4, qt_4, H⟩ := H
  go_wp2_with fail
  go_at_call 74
  refine (Go.Proofs.YtfjcibkgbalkaaaDoor.GsL9One.C ((Go.Proofs.YtfjcibkgbalkaaaDoor.PMail.Mail.mk x_leave x_from_ x_to_ x_arrive))  _    qt_4).mono ?_
  rintro e_t_4 wt_4 ⟨rfl, bt_4⟩
  have HBwt_4 := Lib.hid (Below.step HBw_x_0.out bt_4)
  replace kx_0_0 := cell_below bt_4 kx_0_0
  replace kx_0_1 := cell_below bt_4 kx_0_1
  replace kx_0_2 := cell_below bt_4 kx_0_2
  replace kx_0_3 := cell_below bt_4 kx_0_3
  clear bt_4
  cases t_4 with
  | false =>
    replace H := let_hid H
    obtain ⟨t_5, ht_5, H⟩ := H
    obtain rfl : t_5 = true := ht_5.symm
    replace H := ite_t H
    cases ret_hid H
    go_wp2_with fail
    go_ret2
    exact ⟨rfl, HBwt_4.out⟩
  | true =>
    replace H := let_hid H
    obtain ⟨t_5, ht_5, H⟩ := H
    obtain rfl : t_5 = false := ht_5.symm
    replace H := ite_f H
    go_wp2_with fail
    have Hkx_0_0 := Lib.hid kx_0_0
    replace kx_0_0 := cell_regrown kx_0_0
    have Hkx_0_1 := Lib.hid kx_0_1
    replace kx_0_1 := cell_regrown kx_0_1
    have Hkx_0_2 := Lib.hid kx_0_2
    replace kx_0_2 := cell_regrown kx_0_2
    have Hkx_0_3 := Lib.hid kx_0_3
    replace kx_0_3 := cell_regrown kx_0_3
    replace H := bind_hid H
    obtain ⟨t_10, qt_10, H⟩ := H
    have nt_10 : ∀ d os, Calls Tryd.prog 59 #[.int .i64 x_from_] (Go.Sort.grow (redrawn wt_4 d) os) fun e w'' => e = .returned (.string t_10) ∧ ∃ p : Regrown, w'' = Go.Sort.grow (redrawn wt_4 p.d) p.os := fun d os => Calls.regrown_of (Go.Proofs.YtfjcibkgbalkaaaDoor.GsL1Num.C (x_from_)  _    qt_10)
    replace H := guard_hid H
    obtain ⟨hl_t_11, H⟩ := H
    replace H := let_hid H
    obtain ⟨t_11, ht_11, H⟩ := H
    have ct_11 := cat_rule (P := Tryd.prog) ht_11 hl_t_11
    clear hl_t_11
    have hht_11 := Lib.hid ht_11
    clear ht_11
    replace H := bind_hid H
    obtain ⟨t_14, qt_14, H⟩ := H
    have nt_14 : ∀ d os, Calls Tryd.prog 59 #[.int .i64 x_to_] (Go.Sort.grow (redrawn wt_4 d) os) fun e w'' => e = .returned (.string t_14) ∧ ∃ p : Regrown, w'' = Go.Sort.grow (redrawn wt_4 p.d) p.os := fun d os => Calls.regrown_of (Go.Proofs.YtfjcibkgbalkaaaDoor.GsL1Num.C (x_to_)  _    qt_14)
    replace H := guard_hid H
    obtain ⟨hl_t_15, H⟩ := H
    replace H := let_hid H
    obtain ⟨t_15, ht_15, H⟩ := H
    have ct_15 := cat_rule (P := Tryd.prog) ht_15 hl_t_15
    clear hl_t_15
    have hht_15 := Lib.hid ht_15
    clear ht_15
    replace H := guard_hid H
    obtain ⟨hl_t_16, H⟩ := H
    replace H := let_hid H
    obtain ⟨t_16, ht_16, H⟩ := H
    have ct_16 := cat_rule (P := Tryd.prog) ht_16 hl_t_16
    clear hl_t_16
    have hht_16 := Lib.hid ht_16
    clear ht_16
    replace H := bind_hid H
    obtain ⟨t_19, qt_19, H⟩ := H
    have nt_19 : ∀ d os, Calls Tryd.prog 59 #[.int .i64 x_leave] (Go.Sort.grow (redrawn wt_4 d) os) fun e w'' => e = .returned (.string t_19) ∧ ∃ p : Regrown, w'' = Go.Sort.grow (redrawn wt_4 p.d) p.os := fun d os => Calls.regrown_of (Go.Proofs.YtfjcibkgbalkaaaDoor.GsL1Num.C (x_leave)  _    qt_19)
    replace H := guard_hid H
    obtain ⟨hl_t_20, H⟩ := H
    replace H := let_hid H
    obtain ⟨t_20, ht_20, H⟩ := H
    have ct_20 := cat_rule (P := Tryd.prog) ht_20 hl_t_20
    clear hl_t_20
    have hht_20 := Lib.hid ht_20
    clear ht_20
    replace H := guard_hid H
    obtain ⟨hl_t_21, H⟩ := H
    replace H := let_hid H
    obtain ⟨t_21, ht_21, H⟩ := H
    have ct_21 := cat_rule (P := Tryd.prog) ht_21 hl_t_21
    clear hl_t_21
    have hht_21 := Lib.hid ht_21
    clear ht_21
    replace H := bind_hid H
    obtain ⟨t_24, qt_24, H⟩ := H
    have nt_24 : ∀ d os, Calls Tryd.prog 59 #[.int .i64 x_arrive] (Go.Sort.grow (redrawn wt_4 d) os) fun e w'' => e = .returned (.string t_24) ∧ ∃ p : Regrown, w'' = Go.Sort.grow (redrawn wt_4 p.d) p.os := fun d os => Calls.regrown_of (Go.Proofs.YtfjcibkgbalkaaaDoor.GsL1Num.C (x_arrive)  _    qt_24)
    replace H := guard_hid H
    obtain ⟨hl_t_25, H⟩ := H
    replace H := let_hid H
    obtain ⟨t_25, ht_25, H⟩ := H
    have ct_25 := cat_rule (P := Tryd.prog) ht_25 hl_t_25
    clear hl_t_25
    have hht_25 := Lib.hid ht_25
    clear ht_25
    refine wp_region_quiet_below (by kernel_rfl) (by kernel_rfl) ?_
    repeat (go_big_quiet_step (first | (go_at_call 59; with_reducible exact nt_10 _ _) | (go_at_call 59; with_reducible exact nt_14 _ _) | (go_at_call 59; with_reducible exact nt_19 _ _) | (go_at_call 59; with_reducible exact nt_24 _ _) | (go_at_call 59; exact nt_10 _ _) | (go_at_call 59; exact nt_14 _ _) | (go_at_call 59; exact nt_19 _ _) | (go_at_call 59; exact nt_24 _ _)))
    refine wpQuiet_nil ?_
    intro Y3 hY3
    replace hY3 := below_class hY3
    clear nt_10 nt_14 nt_19 nt_24
    replace kx_0_0 := Hkx_0_0.out
    clear Hkx_0_0
    replace kx_0_1 := Hkx_0_1.out
    clear Hkx_0_1
    replace kx_0_2 := Hkx_0_2.out
    clear Hkx_0_2
    replace kx_0_3 := Hkx_0_3.out
    clear Hkx_0_3
    have HBY3 := Lib.hid (Below.step HBwt_4.out hY3)
    replace kx_0_0 := cell_below hY3 kx_0_0
    replace kx_0_1 := cell_below hY3 kx_0_1
    replace kx_0_2 := cell_below hY3 kx_0_2
    replace kx_0_3 := cell_below hY3 kx_0_3
    clear hY3
    cases ret_hid H
    go_wp2_with fail
    go_ret2
    exact ⟨rfl, HBY3.out⟩
end Go.Proofs.YtfjcibkgbalkaaaDoor.GsMailText
