/- loop.example/g01062/impl.compareMails as a plain function, and the contract of the program's: where the plain one has an answer, the program has it. Conditions: slices read as lists. -/
import Derived.Test.YtfjcibkgbalkaaaDoorChecked
import Derived.Test.YtfjcibkgbalkaaaDoorGoM
import Derived.Test.YtfjcibkgbalkaaaDoorGoRMail
import Derived.Test.YtfjcibkgbalkaaaDoorHelpInt
import Derived.Test.YtfjcibkgbalkaaaDoorGxCmpCompareInt
import Derived.Test.YtfjcibkgbalkaaaDoorGxCmpOrInt
import Derived.WalkKit
import Derived.WalkSpells
import Derived.WalkLawsBesides
import Derived.BigQuiet
import Derived.OwnWalk
import Derived.Deep.LoopGhost
import Derived.Deep.QuietTactic
import Derived.IntWalk
import Derived.Lib.QuietBelow
import Derived.Deep.RegionHeld3
namespace Go.Proofs.YtfjcibkgbalkaaaDoor.GiCompareMails
set_option linter.unusedVariables false
set_option linter.unusedSimpArgs false
open Go.RowKit
open Go.Proofs.YtfjcibkgbalkaaaDoor.Rowed Go.Proofs.YtfjcibkgbalkaaaDoor.Turn Go.Proofs.YtfjcibkgbalkaaaDoor.Aid Go.Proofs.YtfjcibkgbalkaaaDoor.GoP Go.Proofs.YtfjcibkgbalkaaaDoor.GoM

def P (a : Go.Proofs.YtfjcibkgbalkaaaDoor.PMail.Mail) (b : Go.Proofs.YtfjcibkgbalkaaaDoor.PMail.Mail) : Option (Int) :=
  unMail a fun (a_leave : Int) (a_from_ : Int) (a_to_ : Int) (a_arrive : Int) =>
  unMail b fun (b_leave : Int) (b_from_ : Int) (b_to_ : Int) (b_arrive : Int) =>
  Option.bind (Go.Proofs.YtfjcibkgbalkaaaDoor.GxCmpCompareInt.P a_leave b_leave) fun (t_7 : Int) =>
  Option.bind (Go.Proofs.YtfjcibkgbalkaaaDoor.GxCmpCompareInt.P a_from_ b_from_) fun (t_12 : Int) =>
  Option.bind (Go.Proofs.YtfjcibkgbalkaaaDoor.GxCmpCompareInt.P a_to_ b_to_) fun (t_17 : Int) =>
  Option.bind (Go.Proofs.YtfjcibkgbalkaaaDoor.GxCmpCompareInt.P a_arrive b_arrive) fun (t_22 : Int) =>
  letK ([t_7, t_12, t_17, t_22]) fun (t_23 : (List Int)) =>
  Option.bind (Go.Proofs.YtfjcibkgbalkaaaDoor.GxCmpOrInt.P t_23) fun (t_24 : Int) =>
  some t_24

set_option maxRecDepth 100000 in
set_option maxHeartbeats 2000000 in
theorem C (a : Go.Proofs.YtfjcibkgbalkaaaDoor.PMail.Mail) (b : Go.Proofs.YtfjcibkgbalkaaaDoor.PMail.Mail)   (w : World)   {r : Int} (H : Hid (P a b = some r)) :
    Calls Tryd.prog 86 #[a.val, b.val] w (Gives (.int .i64 r) w) := by
  have HB := Lib.hid (Below.refl w.heap.size w)
  unfold P at H
  obtain ⟨a_leave, a_from_, a_to_, a_arrive⟩ := a
  replace H := unMail_hid H
  obtain ⟨b_leave, b_from_, b_to_, b_arrive⟩ := b
  replace H := unMail_hid H
  unfold Go.Proofs.YtfjcibkgbalkaaaDoor.PMail.Mail.val
  go_enter Tryd.func86, Tryd.ntmps86
  obtain ⟨w_a_0, hw_a_0⟩ : ∃ x, w.alloc (.cells #[.int .i64 a_leave, .int .i64 a_from_, .int .i64 a_to_, .int .i64 a_arrive] 54) = x := ⟨_, rfl⟩
  have bw_a_0 : Below w.heap.size w w_a_0 := by rw [← hw_a_0]; exact (Below.refl _ _).alloc (Nat.le_refl _) _
  have HBw_a_0 := Lib.hid (Below.step HB.out bw_a_0)
  clear bw_a_0
  have ka_0_0 : w_a_0.cell? ⟨w.heap.size, 0, none⟩ = some (.int .i64 a_leave) := by rw [← hw_a_0]; exact box_new _ _ _ 0 _ rfl
  have ka_0_1 : w_a_0.cell? ⟨w.heap.size, 1, none⟩ = some (.int .i64 a_from_) := by rw [← hw_a_0]; exact box_new _ _ _ 1 _ rfl
  have ka_0_2 : w_a_0.cell? ⟨w.heap.size, 2, none⟩ = some (.int .i64 a_to_) := by rw [← hw_a_0]; exact box_new _ _ _ 2 _ rfl
  have ka_0_3 : w_a_0.cell? ⟨w.heap.size, 3, none⟩ = some (.int .i64 a_arrive) := by rw [← hw_a_0]; exact box_new _ _ _ 3 _ rfl
  obtain ⟨w_b_1, hw_b_1⟩ : ∃ x, w_a_0.alloc (.cells #[.int .i64 b_leave, .int .i64 b_from_, .int .i64 b_to_, .int .i64 b_arrive] 54) = x := ⟨_, rfl⟩
  have bw_b_1 : Below w_a_0.heap.size w_a_0 w_b_1 := by rw [← hw_b_1]; exact (Below.refl _ _).alloc (Nat.le_refl _) _
  have HBw_b_1 := Lib.hid (Below.step HBw_a_0.out bw_b_1)
  have ka_0_0__382 := cell_below bw_b_1 ka_0_0
  have ka_0_1__383 := cell_below bw_b_1 ka_0_1
  have ka_0_2__384 := cell_below bw_b_1 ka_0_2
  have ka_0_3__385 := cell_below bw_b_1 ka_0_3
  clear bw_b_1
  have kb_1_0 : w_b_1.cell? ⟨w_a_0.heap.size, 0, none⟩ = some (.int .i64 b_leave) := by rw [← hw_b_1]; exact box_new _ _ _ 0 _ rfl
  have kb_1_1 : w_b_1.cell? ⟨w_a_0.heap.size, 1, none⟩ = some (.int .i64 b_from_) := by rw [← hw_b_1]; exact box_new _ _ _ 1 _ rfl
  have kb_1_2 : w_b_1.cell? ⟨w_a_0.heap.size, 2, none⟩ = some (.int .i64 b_to_) := by rw [← hw_b_1]; exact box_new _ _ _ 2 _ rfl
  have kb_1_3 : w_b_1.cell? ⟨w_a_0.heap.size, 3, none⟩ = some (.int .i64 b_arrive) := by rw [← hw_b_1]; exact box_new _ _ _ 3 _ rfl
  go_wp2_with fail
  clear ka_0_0 ka_0_1 ka_0_2 ka_0_3
  have bd1 : Below w_b_1.heap.size w_b_1 w_b_1.drew := (Below.refl _ _).drew
  have HBw_b_1.drew := Lib.hid (Below.step HBw_b_1.out bd1)
  replace ka_0_0__382 := cell_below bd1 ka_0_0__382
  replace ka_0_1__383 := cell_below bd1 ka_0_1__383
  replace ka_0_2__384 := cell_below bd1 ka_0_2__384
  replace ka_0_3__385 := cell_below bd1 ka_0_3__385
  replace kb_1_0 := cell_below bd1 kb_1_0
  replace kb_1_1 := cell_below bd1 kb_1_1
  replace kb_1_2 := cell_below bd1 kb_1_2
  replace kb_1_3 := cell_below bd1 kb_1_3
  clear bd1
  replace H := bind_hid H
  obtain ⟨t_7, qt_7, H⟩ := H
  replace H := bind_hid H
  obtain ⟨t_12, qt_12, H⟩ := H
  replace H := bind_hid H
  obtain ⟨t_17, qt_17, H⟩ := H
  replace H := bind_hid H
  obtain ⟨t_22, qt_22, H⟩ := H
  replace H := let_hid H
  obtain ⟨t_23, ht_23, H⟩ := H
  replace H := bind_hid H
  obtain ⟨t_24, qt_24, H⟩ := H
  go_region_held3 (fun w' => w'.cell? ⟨w.heap.size, 0, none⟩ = some (.int .i64 a_leave) ∧ w'.cell? ⟨w.heap.size, 1, none⟩ = some (.int .i64 a_from_) ∧ w'.cell? ⟨w.heap.size, 2, none⟩ = some (.int .i64 a_to_) ∧ w'.cell? ⟨w.heap.size, 3, none⟩ = some (.int .i64 a_arrive) ∧ w'.cell? ⟨w_a_0.heap.size, 0, none⟩ = some (.int .i64 b_leave) ∧ w'.cell? ⟨w_a_0.heap.size, 1, none⟩ = some (.int .i64 b_from_) ∧ w'.cell? ⟨w_a_0.heap.size, 2, none⟩ = some (.int .i64 b_to_) ∧ w'.cell? ⟨w_a_0.heap.size, 3, none⟩ = some (.int .i64 b_arrive)) (first | exact ⟨ka_0_0__382, ka_0_1__383, ka_0_2__384, ka_0_3__385, kb_1_0, kb_1_1, kb_1_2, kb_1_3⟩ | exact ⟨ka_0_0__386, ka_0_1__387, ka_0_2__388, ka_0_3__389, kb_1_0__390, kb_1_1__391, kb_1_2__392, kb_1_3__393⟩)
      (first
        | (go_at_call 82
           refine (Go.Proofs.YtfjcibkgbalkaaaDoor.GxCmpCompareInt.C (a_leave) (b_leave)  _    qt_7).mono ?_
           rintro e_t_7 wt_7 ⟨rfl, bt_7⟩
           have HBwt_7 := Lib.hid (Below.step HBw_b_1.drew.out bt_7)
           replace ka_0_0__382 := cell_below bt_7 ka_0_0__382
           replace ka_0_1__383 := cell_below bt_7 ka_0_1__383
           replace ka_0_2__384 := cell_below bt_7 ka_0_2__384
           replace ka_0_3__385 := cell_below bt_7 ka_0_3__385
           replace kb_1_0 := cell_below bt_7 kb_1_0
           replace kb_1_1 := cell_below bt_7 kb_1_1
           replace kb_1_2 := cell_below bt_7 kb_1_2
           replace kb_1_3 := cell_below bt_7 kb_1_3
           clear bt_7
           clear qt_7)
        | (go_at_call 82
           refine (Go.Proofs.YtfjcibkgbalkaaaDoor.GxCmpCompareInt.C (a_from_) (b_from_)  _    qt_12).mono ?_
           rintro e_t_12 wt_12 ⟨rfl, bt_12⟩
           have HBwt_12 := Lib.hid (Below.step HBwt_7.out bt_12)
           replace ka_0_0__382 := cell_below bt_12 ka_0_0__382
           replace ka_0_1__383 := cell_below bt_12 ka_0_1__383
           replace ka_0_2__384 := cell_below bt_12 ka_0_2__384
           replace ka_0_3__385 := cell_below bt_12 ka_0_3__385
           replace kb_1_0 := cell_below bt_12 kb_1_0
           replace kb_1_1 := cell_below bt_12 kb_1_1
           replace kb_1_2 := cell_below bt_12 kb_1_2
           replace kb_1_3 := cell_below bt_12 kb_1_3
           clear bt_12
           clear qt_12)
        | (go_at_call 82
           refine (Go.Proofs.YtfjcibkgbalkaaaDoor.GxCmpCompareInt.C (a_to_) (b_to_)  _    qt_17).mono ?_
           rintro e_t_17 wt_17 ⟨rfl, bt_17⟩
           have HBwt_17 := Lib.hid (Below.step HBwt_12.out bt_17)
           replace ka_0_0__382 := cell_below bt_17 ka_0_0__382
           replace ka_0_1__383 := cell_below bt_17 ka_0_1__383
           replace ka_0_2__384 := cell_below bt_17 ka_0_2__384
           replace ka_0_3__385 := cell_below bt_17 ka_0_3__385
           replace kb_1_0 := cell_below bt_17 kb_1_0
           replace kb_1_1 := cell_below bt_17 kb_1_1
           replace kb_1_2 := cell_below bt_17 kb_1_2
           replace kb_1_3 := cell_below bt_17 kb_1_3
           clear bt_17
           clear qt_17)
        | (go_at_call 82
           refine (Go.Proofs.YtfjcibkgbalkaaaDoor.GxCmpCompareInt.C (a_arrive) (b_arrive)  _    qt_22).mono ?_
           rintro e_t_22 wt_22 ⟨rfl, bt_22⟩
           have HBwt_22 := Lib.hid (Below.step HBwt_17.out bt_22)
           replace ka_0_0__382 := cell_below bt_22 ka_0_0__382
           replace ka_0_1__383 := cell_below bt_22 ka_0_1__383
           replace ka_0_2__384 := cell_below bt_22 ka_0_2__384
           replace ka_0_3__385 := cell_below bt_22 ka_0_3__385
           replace kb_1_0 := cell_below bt_22 kb_1_0
           replace kb_1_1 := cell_below bt_22 kb_1_1
           replace kb_1_2 := cell_below bt_22 kb_1_2
           replace kb_1_3 := cell_below bt_22 kb_1_3
           clear bt_22
           clear qt_22
           obtain ⟨w_t_23, hw_t_23⟩ : ∃ x, wt_22.alloc (.cells #[.int .i64 t_7, .int .i64 t_12, .int .i64 t_17, .int .i64 t_22] 3) = x := ⟨_, rfl⟩
           have bw_t_23 : Below wt_22.heap.size wt_22 w_t_23 := by rw [← hw_t_23]; exact (Below.refl _ _).alloc (Nat.le_refl _) _
           have hs_t_23 := HBwt_22.out.size
           have nt_23 : t_23.length = 4 := by rw [← ht_23]; rfl
           have Ot_23 : Hid (w_t_23.ownsRow w.heap.size 3 1 (.slice (some ⟨wt_22.heap.size, 0, none⟩) 4 4) 4 (Go.Proofs.YtfjcibkgbalkaaaDoor.HelpInt.iv t_23)) := by
             rw [← hw_t_23, ← ht_23]
             have e_ : ([.int .i64 t_7, .int .i64 t_12, .int .i64 t_17, .int .i64 t_22] : List Value) = (Go.Proofs.YtfjcibkgbalkaaaDoor.HelpInt.iv ([t_7, t_12, t_17, t_22] : List Int)) := rfl
             exact Lib.hid (own_laid (n := 4) hs_t_23 e_ rfl (by unfold maxLen; omega))
           clear hs_t_23
           have hht_23 := Lib.hid ht_23
           clear ht_23
           replace nt_23 := Lib.hid nt_23
           have Dt_23_a_0 := Lib.hid (apart_box ka_0_0__382)
           have Dt_23_b_1 := Lib.hid (apart_box kb_1_0)
           have HBw_t_23 := Lib.hid (Below.step HBwt_22.out bw_t_23)
           have ka_0_0__386 := cell_below bw_t_23 ka_0_0__382
           have ka_0_1__387 := cell_below bw_t_23 ka_0_1__383
           have ka_0_2__388 := cell_below bw_t_23 ka_0_2__384
           have ka_0_3__389 := cell_below bw_t_23 ka_0_3__385
           have kb_1_0__390 := cell_below bw_t_23 kb_1_0
           have kb_1_1__391 := cell_below bw_t_23 kb_1_1
           have kb_1_2__392 := cell_below bw_t_23 kb_1_2
           have kb_1_3__393 := cell_below bw_t_23 kb_1_3
           clear bw_t_23)
        | (have hc0_ := nt_23.out
           have Oct_24_1 := Lib.hid (own_len hc0_ Ot_23.out)
           have con_ := Go.Proofs.YtfjcibkgbalkaaaDoor.GxCmpOrInt.C (t_23) (some ⟨wt_22.heap.size, 0, none⟩) 4 _   (Lib.hid (own_cells Oct_24_1.out)) (Lib.hid (own_max Oct_24_1.out)) qt_24
           rw [hc0_] at con_
           clear hc0_ Oct_24_1
           go_at_call 81
           refine con_.mono ?_
           rintro e_t_24 wt_24 ⟨rfl, bt_24⟩
           have HBwt_24 := Lib.hid (Below.step HBw_t_23.out bt_24)
           replace ka_0_0__386 := cell_below bt_24 ka_0_0__386
           replace ka_0_1__387 := cell_below bt_24 ka_0_1__387
           replace ka_0_2__388 := cell_below bt_24 ka_0_2__388
           replace ka_0_3__389 := cell_below bt_24 ka_0_3__389
           replace kb_1_0__390 := cell_below bt_24 kb_1_0__390
           replace kb_1_1__391 := cell_below bt_24 kb_1_1__391
           replace kb_1_2__392 := cell_below bt_24 kb_1_2__392
           replace kb_1_3__393 := cell_below bt_24 kb_1_3__393
           replace Ot_23 := Lib.hid (own_below Ot_23.out bt_24)
           clear bt_24
           clear qt_24))
  try clear ka_0_0__382
  try clear ka_0_1__383
  try clear ka_0_2__384
  try clear ka_0_3__385
  try clear kb_1_0
  try clear kb_1_1
  try clear kb_1_2
  try clear kb_1_3
  obtain rfl := ret_hid H
  go_wp2_with fail
  go_ret
  exact ⟨rfl, HBwt_24.out⟩
end Go.Proofs.YtfjcibkgbalkaaaDoor.GiCompareMails
