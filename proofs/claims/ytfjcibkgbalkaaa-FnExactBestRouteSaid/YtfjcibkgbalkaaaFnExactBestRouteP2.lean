/- The texts on which the proof of FnExactBestRoute stands, one behind the other (2 of 3). No condition of their own. -/
import Derived.Test.YtfjcibkgbalkaaaChecked
import Derived.Test.YtfjcibkgbalkaaaFnExactBestRouteP1
import Derived.WalkKit
import Derived.WalkSpells
import Derived.WalkLawsBesides
import Derived.BigQuiet
import Derived.OwnWalk
import Derived.Deep.LoopGhost
import Derived.Deep.QuietTactic
import Derived.IntWalk
import Derived.Lib.QuietBelow
import Derived.Deep.RegionHeld3
import Derived.ScopeJumps
import Derived.StillTailTactics
/- loop.example/g01062/impl.compareMails as a plain function, and the contract of the program's: where the plain one has an answer, the program has it. Conditions: slices read as lists. -/
namespace Go.Proofs.Ytfjcibkgbalkaaa.GiCompareMails
set_option linter.unusedVariables false
set_option linter.unusedSimpArgs false
open Go.RowKit
open Go.Proofs.Ytfjcibkgbalkaaa.Rowed Go.Proofs.Ytfjcibkgbalkaaa.Turn Go.Proofs.Ytfjcibkgbalkaaa.Aid Go.Proofs.Ytfjcibkgbalkaaa.GoP Go.Proofs.Ytfjcibkgbalkaaa.GoM

def P (a : Go.Proofs.Ytfjcibkgbalkaaa.PMail.Mail) (b : Go.Proofs.Ytfjcibkgbalkaaa.PMail.Mail) : Option (Int) :=
  unMail a fun (a_leave : Int) (a_from_ : Int) (a_to_ : Int) (a_arrive : Int) =>
  unMail b fun (b_leave : Int) (b_from_ : Int) (b_to_ : Int) (b_arrive : Int) =>
  Option.bind (Go.Proofs.Ytfjcibkgbalkaaa.GxCmpCompareInt.P a_leave b_leave) fun (t_7 : Int) =>
  Option.bind (Go.Proofs.Ytfjcibkgbalkaaa.GxCmpCompareInt.P a_from_ b_from_) fun (t_12 : Int) =>
  Option.bind (Go.Proofs.Ytfjcibkgbalkaaa.GxCmpCompareInt.P a_to_ b_to_) fun (t_17 : Int) =>
  Option.bind (Go.Proofs.Ytfjcibkgbalkaaa.GxCmpCompareInt.P a_arrive b_arrive) fun (t_22 : Int) =>
  letK ([t_7, t_12, t_17, t_22]) fun (t_23 : (List Int)) =>
  Option.bind (Go.Proofs.Ytfjcibkgbalkaaa.GxCmpOrInt.P t_23) fun (t_24 : Int) =>
  some t_24

set_option maxRecDepth 100000 in
set_option maxHeartbeats 2000000 in
theorem C (a : Go.Proofs.Ytfjcibkgbalkaaa.PMail.Mail) (b : Go.Proofs.Ytfjcibkgbalkaaa.PMail.Mail)   (w : World)   {r : Int} (H : Hid (P a b = some r)) :
    Calls Try.prog 94 #[a.val, b.val] w (Gives (.int .i64 r) w) := by
  have HB := Lib.hid (Below.refl w.heap.size w)
  unfold P at H
  obtain ⟨a_leave, a_from_, a_to_, a_arrive⟩ := a
  replace H := unMail_hid H
  obtain ⟨b_leave, b_from_, b_to_, b_arrive⟩ := b
  replace H := unMail_hid H
  unfold Go.Proofs.Ytfjcibkgbalkaaa.PMail.Mail.val
  go_enter Try.func94, Try.ntmps94
  obtain ⟨w_a_0, hw_a_0⟩ : ∃ x, w.alloc (.cells #[.int .i64 a_leave, .int .i64 a_from_, .int .i64 a_to_, .int .i64 a_arrive] 95) = x := ⟨_, rfl⟩
  have bw_a_0 : Below w.heap.size w w_a_0 := by rw [← hw_a_0]; exact (Below.refl _ _).alloc (Nat.le_refl _) _
  have HBw_a_0 := Lib.hid (Below.step HB.out bw_a_0)
  clear bw_a_0
  have ka_0_0 : w_a_0.cell? ⟨w.heap.size, 0, none⟩ = some (.int .i64 a_leave) := by rw [← hw_a_0]; exact box_new _ _ _ 0 _ rfl
  have ka_0_1 : w_a_0.cell? ⟨w.heap.size, 1, none⟩ = some (.int .i64 a_from_) := by rw [← hw_a_0]; exact box_new _ _ _ 1 _ rfl
  have ka_0_2 : w_a_0.cell? ⟨w.heap.size, 2, none⟩ = some (.int .i64 a_to_) := by rw [← hw_a_0]; exact box_new _ _ _ 2 _ rfl
  have ka_0_3 : w_a_0.cell? ⟨w.heap.size, 3, none⟩ = some (.int .i64 a_arrive) := by rw [← hw_a_0]; exact box_new _ _ _ 3 _ rfl
  obtain ⟨w_b_1, hw_b_1⟩ : ∃ x, w_a_0.alloc (.cells #[.int .i64 b_leave, .int .i64 b_from_, .int .i64 b_to_, .int .i64 b_arrive] 95) = x := ⟨_, rfl⟩
  have bw_b_1 : Below w_a_0.heap.size w_a_0 w_b_1 := by rw [← hw_b_1]; exact (Below.refl _ _).alloc (Nat.le_refl _) _
  have HBw_b_1 := Lib.hid (Below.step HBw_a_0.out bw_b_1)
  have ka_0_0__589 := cell_below bw_b_1 ka_0_0
  have ka_0_1__590 := cell_below bw_b_1 ka_0_1
  have ka_0_2__591 := cell_below bw_b_1 ka_0_2
  have ka_0_3__592 := cell_below bw_b_1 ka_0_3
  clear bw_b_1
  have kb_1_0 : w_b_1.cell? ⟨w_a_0.heap.size, 0, none⟩ = some (.int .i64 b_leave) := by rw [← hw_b_1]; exact box_new _ _ _ 0 _ rfl
  have kb_1_1 : w_b_1.cell? ⟨w_a_0.heap.size, 1, none⟩ = some (.int .i64 b_from_) := by rw [← hw_b_1]; exact box_new _ _ _ 1 _ rfl
  have kb_1_2 : w_b_1.cell? ⟨w_a_0.heap.size, 2, none⟩ = some (.int .i64 b_to_) := by rw [← hw_b_1]; exact box_new _ _ _ 2 _ rfl
  have kb_1_3 : w_b_1.cell? ⟨w_a_0.heap.size, 3, none⟩ = some (.int .i64 b_arrive) := by rw [← hw_b_1]; exact box_new _ _ _ 3 _ rfl
  go_wp2_with fail
  clear ka_0_0 ka_0_1 ka_0_2 ka_0_3
  have bd1 : Below w_b_1.heap.size w_b_1 w_b_1.drew := (Below.refl _ _).drew
  have HBw_b_1.drew := Lib.hid (Below.step HBw_b_1.out bd1)
  replace ka_0_0__589 := cell_below bd1 ka_0_0__589
  replace ka_0_1__590 := cell_below bd1 ka_0_1__590
  replace ka_0_2__591 := cell_below bd1 ka_0_2__591
  replace ka_0_3__592 := cell_below bd1 ka_0_3__592
  replace kb_1_0 := cell_below bd1 kb_1_0
  replace kb_1_1 := cell_below bd1 kb_1_1
  replace kb_1_2 := cell_below bd1 kb_1_2
  replace kb_1_3 := cell_below bd1 kb_1_3
  clear bd1
  replace H := bind_hid H
  obtain ⟨t_7, qt_7, H⟩ := H
  replace H := bind_hid H
  obtain ⟨t_12, qt_12, H⟩ := H
  replace H := bind_hid H
  obtain ⟨t_17, qt_17, H⟩ := H
  replace H := bind_hid H
  obtain ⟨t_22, qt_22, H⟩ := H
  replace H := let_hid H
  obtain ⟨t_23, ht_23, H⟩ := H
  replace H := bind_hid H
  obtain ⟨t_24, qt_24, H⟩ := H
  go_region_held3 (fun w' => w'.cell? ⟨w.heap.size, 0, none⟩ = some (.int .i64 a_leave) ∧ w'.cell? ⟨w.heap.size, 1, none⟩ = some (.int .i64 a_from_) ∧ w'.cell? ⟨w.heap.size, 2, none⟩ = some (.int .i64 a_to_) ∧ w'.cell? ⟨w.heap.size, 3, none⟩ = some (.int .i64 a_arrive) ∧ w'.cell? ⟨w_a_0.heap.size, 0, none⟩ = some (.int .i64 b_leave) ∧ w'.cell? ⟨w_a_0.heap.size, 1, none⟩ = some (.int .i64 b_from_) ∧ w'.cell? ⟨w_a_0.heap.size, 2, none⟩ = some (.int .i64 b_to_) ∧ w'.cell? ⟨w_a_0.heap.size, 3, none⟩ = some (.int .i64 b_arrive)) (first | exact ⟨ka_0_0__589, ka_0_1__590, ka_0_2__591, ka_0_3__592, kb_1_0, kb_1_1, kb_1_2, kb_1_3⟩ | exact ⟨ka_0_0__593, ka_0_1__594, ka_0_2__595, ka_0_3__596, kb_1_0__597, kb_1_1__598, kb_1_2__599, kb_1_3__600⟩)
      (first
        | (go_at_call 114
           refine (Go.Proofs.Ytfjcibkgbalkaaa.GxCmpCompareInt.C (a_leave) (b_leave)  _    qt_7).mono ?_
           rintro e_t_7 wt_7 ⟨rfl, bt_7⟩
           have HBwt_7 := Lib.hid (Below.step HBw_b_1.drew.out bt_7)
           replace ka_0_0__589 := cell_below bt_7 ka_0_0__589
           replace ka_0_1__590 := cell_below bt_7 ka_0_1__590
           replace ka_0_2__591 := cell_below bt_7 ka_0_2__591
           replace ka_0_3__592 := cell_below bt_7 ka_0_3__592
           replace kb_1_0 := cell_below bt_7 kb_1_0
           replace kb_1_1 := cell_below bt_7 kb_1_1
           replace kb_1_2 := cell_below bt_7 kb_1_2
           replace kb_1_3 := cell_below bt_7 kb_1_3
           clear bt_7
           clear qt_7)
        | (go_at_call 114
           refine (Go.Proofs.Ytfjcibkgbalkaaa.GxCmpCompareInt.C (a_from_) (b_from_)  _    qt_12).mono ?_
           rintro e_t_12 wt_12 ⟨rfl, bt_12⟩
           have HBwt_12 := Lib.hid (Below.step HBwt_7.out bt_12)
           replace ka_0_0__589 := cell_below bt_12 ka_0_0__589
           replace ka_0_1__590 := cell_below bt_12 ka_0_1__590
           replace ka_0_2__591 := cell_below bt_12 ka_0_2__591
           replace ka_0_3__592 := cell_below bt_12 ka_0_3__592
           replace kb_1_0 := cell_below bt_12 kb_1_0
           replace kb_1_1 := cell_below bt_12 kb_1_1
           replace kb_1_2 := cell_below bt_12 kb_1_2
           replace kb_1_3 := cell_below bt_12 kb_1_3
           clear bt_12
           clear qt_12)
        | (go_at_call 114
           refine (Go.Proofs.Ytfjcibkgbalkaaa.GxCmpCompareInt.C (a_to_) (b_to_)  _    qt_17).mono ?_
           rintro e_t_17 wt_17 ⟨rfl, bt_17⟩
           have HBwt_17 := Lib.hid (Below.step HBwt_12.out bt_17)
           replace ka_0_0__589 := cell_below bt_17 ka_0_0__589
           replace ka_0_1__590 := cell_below bt_17 ka_0_1__590
           replace ka_0_2__591 := cell_below bt_17 ka_0_2__591
           replace ka_0_3__592 := cell_below bt_17 ka_0_3__592
           replace kb_1_0 := cell_below bt_17 kb_1_0
           replace kb_1_1 := cell_below bt_17 kb_1_1
           replace kb_1_2 := cell_below bt_17 kb_1_2
           replace kb_1_3 := cell_below bt_17 kb_1_3
           clear bt_17
           clear qt_17)
        | (go_at_call 114
           refine (Go.Proofs.Ytfjcibkgbalkaaa.GxCmpCompareInt.C (a_arrive) (b_arrive)  _    qt_22).mono ?_
           rintro e_t_22 wt_22 ⟨rfl, bt_22⟩
           have HBwt_22 := Lib.hid (Below.step HBwt_17.out bt_22)
           replace ka_0_0__589 := cell_below bt_22 ka_0_0__589
           replace ka_0_1__590 := cell_below bt_22 ka_0_1__590
           replace ka_0_2__591 := cell_below bt_22 ka_0_2__591
           replace ka_0_3__592 := cell_below bt_22 ka_0_3__592
           replace kb_1_0 := cell_below bt_22 kb_1_0
           replace kb_1_1 := cell_below bt_22 kb_1_1
           replace kb_1_2 := cell_below bt_22 kb_1_2
           replace kb_1_3 := cell_below bt_22 kb_1_3
           clear bt_22
           clear qt_22
           obtain ⟨w_t_23, hw_t_23⟩ : ∃ x, wt_22.alloc (.cells #[.int .i64 t_7, .int .i64 t_12, .int .i64 t_17, .int .i64 t_22] 3) = x := ⟨_, rfl⟩
           have bw_t_23 : Below wt_22.heap.size wt_22 w_t_23 := by rw [← hw_t_23]; exact (Below.refl _ _).alloc (Nat.le_refl _) _
           have hs_t_23 := HBwt_22.out.size
           have nt_23 : t_23.length = 4 := by rw [← ht_23]; rfl
           have Ot_23 : Hid (w_t_23.ownsRow w.heap.size 3 1 (.slice (some ⟨wt_22.heap.size, 0, none⟩) 4 4) 4 (Go.Proofs.Ytfjcibkgbalkaaa.HelpInt.iv t_23)) := by
             rw [← hw_t_23, ← ht_23]
             have e_ : ([.int .i64 t_7, .int .i64 t_12, .int .i64 t_17, .int .i64 t_22] : List Value) = (Go.Proofs.Ytfjcibkgbalkaaa.HelpInt.iv ([t_7, t_12, t_17, t_22] : List Int)) := rfl
             exact Lib.hid (own_laid (n := 4) hs_t_23 e_ rfl (by unfold maxLen; omega))
           clear hs_t_23
           have hht_23 := Lib.hid ht_23
           clear ht_23
           replace nt_23 := Lib.hid nt_23
           have Dt_23_a_0 := Lib.hid (apart_box ka_0_0__589)
           have Dt_23_b_1 := Lib.hid (apart_box kb_1_0)
           have HBw_t_23 := Lib.hid (Below.step HBwt_22.out bw_t_23)
           have ka_0_0__593 := cell_below bw_t_23 ka_0_0__589
           have ka_0_1__594 := cell_below bw_t_23 ka_0_1__590
           have ka_0_2__595 := cell_below bw_t_23 ka_0_2__591
           have ka_0_3__596 := cell_below bw_t_23 ka_0_3__592
           have kb_1_0__597 := cell_below bw_t_23 kb_1_0
           have kb_1_1__598 := cell_below bw_t_23 kb_1_1
           have kb_1_2__599 := cell_below bw_t_23 kb_1_2
           have kb_1_3__600 := cell_below bw_t_23 kb_1_3
           clear bw_t_23)
        | (have hc0_ := nt_23.out
           have Oct_24_1 := Lib.hid (own_len hc0_ Ot_23.out)
           have con_ := Go.Proofs.Ytfjcibkgbalkaaa.GxCmpOrInt.C (t_23) (some ⟨wt_22.heap.size, 0, none⟩) 4 _   (Lib.hid (own_cells Oct_24_1.out)) (Lib.hid (own_max Oct_24_1.out)) qt_24
           rw [hc0_] at con_
           clear hc0_ Oct_24_1
           go_at_call 113
           refine con_.mono ?_
           rintro e_t_24 wt_24 ⟨rfl, bt_24⟩
           have HBwt_24 := Lib.hid (Below.step HBw_t_23.out bt_24)
           replace ka_0_0__593 := cell_below bt_24 ka_0_0__593
           replace ka_0_1__594 := cell_below bt_24 ka_0_1__594
           replace ka_0_2__595 := cell_below bt_24 ka_0_2__595
           replace ka_0_3__596 := cell_below bt_24 ka_0_3__596
           replace kb_1_0__597 := cell_below bt_24 kb_1_0__597
           replace kb_1_1__598 := cell_below bt_24 kb_1_1__598
           replace kb_1_2__599 := cell_below bt_24 kb_1_2__599
           replace kb_1_3__600 := cell_below bt_24 kb_1_3__600
           replace Ot_23 := Lib.hid (own_below Ot_23.out bt_24)
           clear bt_24
           clear qt_24))
  try clear ka_0_0__589
  try clear ka_0_1__590
  try clear ka_0_2__591
  try clear ka_0_3__592
  try clear kb_1_0
  try clear kb_1_1
  try clear kb_1_2
  try clear kb_1_3
  obtain rfl := ret_hid H
  go_wp2_with fail
  go_ret
  exact ⟨rfl, HBwt_24.out⟩
end Go.Proofs.Ytfjcibkgbalkaaa.GiCompareMails

/- loop.example/g01062/impl.IsTimetable as a plain function, and the contract of the program's: where the plain one has an answer, the program has it. Conditions: slices read as lists. -/
namespace Go.Proofs.Ytfjcibkgbalkaaa.GiIsTimetable
set_option linter.unusedVariables false
set_option linter.unusedSimpArgs false
open Go.RowKit
open Go.Proofs.Ytfjcibkgbalkaaa.Rowed Go.Proofs.Ytfjcibkgbalkaaa.Turn Go.Proofs.Ytfjcibkgbalkaaa.Aid Go.Proofs.Ytfjcibkgbalkaaa.GoP Go.Proofs.Ytfjcibkgbalkaaa.GoM

def l0 (list : (List Go.Proofs.Ytfjcibkgbalkaaa.PMail.Mail)) (k0 : Nat) (s : Unit) (nx0 bk0 : Unit → Option (Bool)) : Option (Bool) :=
  
  Option.bind (idx list (k0 : Int)) fun (yt_10 : Go.Proofs.Ytfjcibkgbalkaaa.PMail.Mail) =>
  unMail yt_10 fun (t_10_leave : Int) (t_10_from_ : Int) (t_10_to_ : Int) (t_10_arrive : Int) =>
  Option.bind (Go.Proofs.Ytfjcibkgbalkaaa.GiIsMail.P (Go.Proofs.Ytfjcibkgbalkaaa.PMail.Mail.mk t_10_leave t_10_from_ t_10_to_ t_10_arrive)) fun (t_16 : Bool) =>
  letK (!t_16) fun (t_17 : Bool) =>
  joinK (fun (t_31 : Bool) =>
  iteK t_31
  (some false)
  (appK nx0 ())) fun jt_31 => iteK t_17 (appK jt_31 true) (letK (decide (0 < (k0 : Int))) fun (t_20 : Bool) =>
  joinK (fun (t_30 : Bool) =>
  appK jt_31 t_30) fun jt_30 => iteK t_20 (letK (IntKind.i64.wrap ((k0 : Int) - 1)) fun (t_24 : Int) =>
  Option.bind (idx list t_24) fun (yt_25 : Go.Proofs.Ytfjcibkgbalkaaa.PMail.Mail) =>
  unMail yt_25 fun (t_25_leave : Int) (t_25_from_ : Int) (t_25_to_ : Int) (t_25_arrive : Int) =>
  Option.bind (Go.Proofs.Ytfjcibkgbalkaaa.GiCompareMails.P (Go.Proofs.Ytfjcibkgbalkaaa.PMail.Mail.mk t_25_leave t_25_from_ t_25_to_ t_25_arrive) (Go.Proofs.Ytfjcibkgbalkaaa.PMail.Mail.mk t_10_leave t_10_from_ t_10_to_ t_10_arrive)) fun (t_28 : Int) =>
  letK (decide (0 ≤ t_28)) fun (t_29 : Bool) =>
  appK jt_30 t_29) (appK jt_30 false))

def e0  (s : Unit) : Option (Bool) :=
  
  some true

def P (list : (List Go.Proofs.Ytfjcibkgbalkaaa.PMail.Mail)) : Option (Bool) :=
  letK (decide (20 < (list.length : Int))) fun (t_3 : Bool) =>
  iteK t_3
  (some false)
  (cntK (l0 list) (list.length) 0 () (e0 ))

set_option maxRecDepth 100000 in
set_option maxHeartbeats 2000000 in
theorem C (list : (List Go.Proofs.Ytfjcibkgbalkaaa.PMail.Mail)) (A0 : Option Addr) (c0 : Nat)  (w : World) (M0 : Hid (Cells w 4 A0 list.length (Go.Proofs.Ytfjcibkgbalkaaa.PMail.flat list))) (N0 : Hid (list.length ≤ 9223372036854775807))  {r : Bool} (H : Hid (P list = some r)) :
    Calls Try.prog 34 #[.slice A0 list.length c0] w (Gives (.bool r) w) := by
  have HB := Lib.hid (Below.refl w.heap.size w)
  unfold P at H
  have N0o := N0.out
  go_enter Try.func34, Try.ntmps34
  replace H := let_hid H
  obtain ⟨t_3, ht_3, H⟩ := H
  cases t_3 with
  | false =>
    have nht_3 : ¬ (20 < list.length) := by have := of_decide_eq_false ht_3; omega
    replace H := ite_f H
    go_wp2_with fail
    go_loopg [10] (list.length) (fun m_ v10_ wr => ∃ (k0 : Nat) , k0 + m_ = list.length ∧ v10_ = .int .i64 (k0 : Int) ∧ Hid (cntK (l0 list) m_ k0 () (e0 ) = some r) ∧ Hid (Below w.heap.size w wr))
    case atStart => exact ⟨0, by omega, rfl, H, HB⟩
    case round =>
      obtain ⟨k0, hkm0, rfl, H, HBwr0⟩ := hrel
      rename World => wr0
      cases gk with
      | zero =>
        obtain rfl : k0 = list.length := by omega
        have hc0 : decide (((list.length : Nat) : Int) < ((list.length : Nat) : Int)) = false := by simp
        replace H := cnt_zero H
        unfold e0 at H
        obtain rfl := ret_hid H
        go_wp2_with fail
        go_ret
        exact ⟨rfl, HBwr0.out⟩
      | succ m0 =>
        have hlt0 : k0 < list.length := by omega
        have hc0 : decide ((k0 : Int) < ((list.length : Nat) : Int)) = true := by simp; omega
        replace H := cnt_succ H
        unfold l0 at H
        replace H := idx_hid H
        obtain ⟨nt_10, yt_10, et_10, lt_10, gt_10, H⟩ := H
        obtain rfl : k0 = nt_10 := by omega
        clear et_10
        obtain ⟨t_10_leave, t_10_from_, t_10_to_, t_10_arrive⟩ := yt_10
        replace H := unMail_hid H
        obtain ⟨ab_t_10, ao_t_10, zt_10, At_10, z_t_10, ct_10_0, ct_10_1, ct_10_2, ct_10_3⟩ := Go.Proofs.Ytfjcibkgbalkaaa.OMail.at_ M0.out lt_10
        obtain rfl := Option.some.inj (gt_10.out.symm.trans z_t_10)
        subst At_10
        have ltt_10 := cell_lt ct_10_0
        replace ct_10_0 := cell_below HBwr0.out ct_10_0
        replace ct_10_1 := cell_below HBwr0.out ct_10_1
        replace ct_10_2 := cell_below HBwr0.out ct_10_2
        replace ct_10_3 := cell_below HBwr0.out ct_10_3
        clear z_t_10
        have b0t_10 : (0 : Int) ≤ (k0 : Int) := by omega
        have b1t_10 : (k0 : Int) < ((list.length : Nat) : Int) := by omega
        have b2t_10 : ((k0 : Int)).toNat = k0 := by omega
        obtain ⟨w_x_12, hw_x_12⟩ : ∃ x, wr0.alloc (.cells #[.int .i64 t_10_leave, .int .i64 t_10_from_, .int .i64 t_10_to_, .int .i64 t_10_arrive] 95) = x := ⟨_, rfl⟩
        have bw_x_12 : Below wr0.heap.size wr0 w_x_12 := by rw [← hw_x_12]; exact (Below.refl _ _).alloc (Nat.le_refl _) _
        have HBw_x_12 := Lib.hid (Below.step HBwr0.out bw_x_12)
        have ct_10_0__601 := cell_below bw_x_12 ct_10_0
        have ct_10_1__602 := cell_below bw_x_12 ct_10_1
        have ct_10_2__603 := cell_below bw_x_12 ct_10_2
        have ct_10_3__604 := cell_below bw_x_12 ct_10_3
        clear bw_x_12
        have kx_12_0 : w_x_12.cell? ⟨wr0.heap.size, 0, none⟩ = some (.int .i64 t_10_leave) := by rw [← hw_x_12]; exact box_new _ _ _ 0 _ rfl
        have kx_12_1 : w_x_12.cell? ⟨wr0.heap.size, 1, none⟩ = some (.int .i64 t_10_from_) := by rw [← hw_x_12]; exact box_new _ _ _ 1 _ rfl
        have kx_12_2 : w_x_12.cell? ⟨wr0.heap.size, 2, none⟩ = some (.int .i64 t_10_to_) := by rw [← hw_x_12]; exact box_new _ _ _ 2 _ rfl
        have kx_12_3 : w_x_12.cell? ⟨wr0.heap.size, 3, none⟩ = some (.int .i64 t_10_arrive) := by rw [← hw_x_12]; exact box_new _ _ _ 3 _ rfl
        go_wp2_with fail
        clear ct_10_0 ct_10_1 ct_10_2 ct_10_3
        have Hct_10_0__601 := Lib.hid ct_10_0__601
        replace ct_10_0__601 := cell_regrown ct_10_0__601
        have Hct_10_1__602 := Lib.hid ct_10_1__602
        replace ct_10_1__602 := cell_regrown ct_10_1__602
        have Hct_10_2__603 := Lib.hid ct_10_2__603
        replace ct_10_2__603 := cell_regrown ct_10_2__603
        have Hct_10_3__604 := Lib.hid ct_10_3__604
        replace ct_10_3__604 := cell_regrown ct_10_3__604
        have Hkx_12_0 := Lib.hid kx_12_0
        replace kx_12_0 := cell_regrown kx_12_0
        have Hkx_12_1 := Lib.hid kx_12_1
        replace kx_12_1 := cell_regrown kx_12_1
        have Hkx_12_2 := Lib.hid kx_12_2
        replace kx_12_2 := cell_regrown kx_12_2
        have Hkx_12_3 := Lib.hid kx_12_3
        replace kx_12_3 := cell_regrown kx_12_3
        replace H := bind_hid H
        obtain ⟨t_16, qt_16, H⟩ := H
        have nt_16 : ∀ d os, Calls Try.prog 93 #[.agg #[.int .i64 t_10_leave, .int .i64 t_10_from_, .int .i64 t_10_to_, .int .i64 t_10_arrive]] (Go.Sort.grow (redrawn w_x_12 d) os) fun e w'' => e = .returned (.bool t_16) ∧ ∃ p : Regrown, w'' = Go.Sort.grow (redrawn w_x_12 p.d) p.os := fun d os => Calls.regrown_of (Go.Proofs.Ytfjcibkgbalkaaa.GiIsMail.C ((Go.Proofs.Ytfjcibkgbalkaaa.PMail.Mail.mk t_10_leave t_10_from_ t_10_to_ t_10_arrive))  _    qt_16)
        cases t_16 with
        | false =>
          replace H := let_hid H
          obtain ⟨t_17, ht_17, H⟩ := H
          obtain rfl : t_17 = true := ht_17.symm
          replace H := join_hid H
          replace H := ite_t H
          replace H := app_hid H
          refine wp_region_quiet_below (by kernel_rfl) (by kernel_rfl) ?_
          repeat (go_big_quiet_step (first | (go_at_call 93; exact nt_16 _ _)))
          refine wpQuiet_nil ?_
          intro Y6 hY6
          replace hY6 := below_class hY6
          clear nt_16
          replace ct_10_0__601 := Hct_10_0__601.out
          clear Hct_10_0__601
          replace ct_10_1__602 := Hct_10_1__602.out
          clear Hct_10_1__602
          replace ct_10_2__603 := Hct_10_2__603.out
          clear Hct_10_2__603
          replace ct_10_3__604 := Hct_10_3__604.out
          clear Hct_10_3__604
          replace kx_12_0 := Hkx_12_0.out
          clear Hkx_12_0
          replace kx_12_1 := Hkx_12_1.out
          clear Hkx_12_1
          replace kx_12_2 := Hkx_12_2.out
          clear Hkx_12_2
          replace kx_12_3 := Hkx_12_3.out
          clear Hkx_12_3
          have HBY6 := Lib.hid (Below.step HBw_x_12.out hY6)
          replace ct_10_0__601 := cell_below hY6 ct_10_0__601
          replace ct_10_1__602 := cell_below hY6 ct_10_1__602
          replace ct_10_2__603 := cell_below hY6 ct_10_2__603
          replace ct_10_3__604 := cell_below hY6 ct_10_3__604
          replace kx_12_0 := cell_below hY6 kx_12_0
          replace kx_12_1 := cell_below hY6 kx_12_1
          replace kx_12_2 := cell_below hY6 kx_12_2
          replace kx_12_3 := cell_below hY6 kx_12_3
          clear hY6
          replace H := ite_t H
          obtain rfl := ret_hid H
          go_wp2_with fail
          go_ret
          exact ⟨rfl, HBY6.out⟩
        | true =>
          replace H := let_hid H
          obtain ⟨t_17, ht_17, H⟩ := H
          obtain rfl : t_17 = false := ht_17.symm
          replace H := join_hid H
          replace H := ite_f H
          replace H := let_hid H
          obtain ⟨t_20, ht_20, H⟩ := H
          replace H := join_hid H
          cases t_20 with
          | false =>
            have nht_20 : ¬ (0 < k0) := by have := of_decide_eq_false ht_20; omega
            replace H := ite_f H
            replace H := app_hid H
            replace H := app_hid H
            refine wp_region_quiet_below (by kernel_rfl) (by kernel_rfl) ?_
            repeat (go_big_quiet_step (first | (go_at_call 93; exact nt_16 _ _)))
            refine wpQuiet_nil ?_
            intro Y6 hY6
            replace hY6 := below_class hY6
            clear nt_16
            replace ct_10_0__601 := Hct_10_0__601.out
            clear Hct_10_0__601
            replace ct_10_1__602 := Hct_10_1__602.out
            clear Hct_10_1__602
            replace ct_10_2__603 := Hct_10_2__603.out
            clear Hct_10_2__603
            replace ct_10_3__604 := Hct_10_3__604.out
            clear Hct_10_3__604
            replace kx_12_0 := Hkx_12_0.out
            clear Hkx_12_0
            replace kx_12_1 := Hkx_12_1.out
            clear Hkx_12_1
            replace kx_12_2 := Hkx_12_2.out
            clear Hkx_12_2
            replace kx_12_3 := Hkx_12_3.out
            clear Hkx_12_3
            have HBY6 := Lib.hid (Below.step HBw_x_12.out hY6)
            replace ct_10_0__601 := cell_below hY6 ct_10_0__601
            replace ct_10_1__602 := cell_below hY6 ct_10_1__602
            replace ct_10_2__603 := cell_below hY6 ct_10_2__603
            replace ct_10_3__604 := cell_below hY6 ct_10_3__604
            replace kx_12_0 := cell_below hY6 kx_12_0
            replace kx_12_1 := cell_below hY6 kx_12_1
            replace kx_12_2 := cell_below hY6 kx_12_2
            replace kx_12_3 := cell_below hY6 kx_12_3
            clear hY6
            replace H := ite_f H
            replace H := app_hid H
            go_wp2_with fail
            go_roundg m0
            case measure => omega
            case rel => exact ⟨k0 + 1, by omega, by go_num, H, HBY6⟩
          | true =>
            have nht_20 : 0 < k0 := by have := of_decide_eq_true ht_20; omega
            replace H := ite_t H
            replace H := let_hid H
            obtain ⟨t_24, ht_24, H⟩ := H
            replace H := idx_hid H
            obtain ⟨nt_25, yt_25, et_25, lt_25, gt_25, H⟩ := H
            subst et_25
            obtain ⟨t_25_leave, t_25_from_, t_25_to_, t_25_arrive⟩ := yt_25
            replace H := unMail_hid H
            obtain ⟨ab_t_25, ao_t_25, zt_25, At_25, z_t_25, ct_25_0, ct_25_1, ct_25_2, ct_25_3⟩ := Go.Proofs.Ytfjcibkgbalkaaa.OMail.at_ M0.out lt_25
            obtain rfl := Option.some.inj (gt_25.out.symm.trans z_t_25)
            simp only [Option.some.injEq, Addr.mk.injEq] at At_25
            obtain ⟨rfl, rfl, _⟩ := At_25
            have ltt_25 := cell_lt ct_25_0
            replace ct_25_0 := cell_below HBw_x_12.out ct_25_0
            replace ct_25_1 := cell_below HBw_x_12.out ct_25_1
            replace ct_25_2 := cell_below HBw_x_12.out ct_25_2
            replace ct_25_3 := cell_below HBw_x_12.out ct_25_3
            clear z_t_25
            have b0t_25 : (0 : Int) ≤ (nt_25 : Int) := by omega
            have b1t_25 : (nt_25 : Int) < ((list.length : Nat) : Int) := by omega
            have b2t_25 : ((nt_25 : Int)).toNat = nt_25 := by omega
            have Hct_25_0 := Lib.hid ct_25_0
            replace ct_25_0 := cell_regrown ct_25_0
            have Hct_25_1 := Lib.hid ct_25_1
            replace ct_25_1 := cell_regrown ct_25_1
            have Hct_25_2 := Lib.hid ct_25_2
            replace ct_25_2 := cell_regrown ct_25_2
            have Hct_25_3 := Lib.hid ct_25_3
            replace ct_25_3 := cell_regrown ct_25_3
            replace H := bind_hid H
            obtain ⟨t_28, qt_28, H⟩ := H
            have nt_28 : ∀ d os, Calls Try.prog 94 #[.agg #[.int .i64 t_25_leave, .int .i64 t_25_from_, .int .i64 t_25_to_, .int .i64 t_25_arrive], .agg #[.int .i64 t_10_leave, .int .i64 t_10_from_, .int .i64 t_10_to_, .int .i64 t_10_arrive]] (Go.Sort.grow (redrawn w_x_12 d) os) fun e w'' => e = .returned (.int .i64 t_28) ∧ ∃ p : Regrown, w'' = Go.Sort.grow (redrawn w_x_12 p.d) p.os := fun d os => Calls.regrown_of (Go.Proofs.Ytfjcibkgbalkaaa.GiCompareMails.C ((Go.Proofs.Ytfjcibkgbalkaaa.PMail.Mail.mk t_25_leave t_25_from_ t_25_to_ t_25_arrive)) ((Go.Proofs.Ytfjcibkgbalkaaa.PMail.Mail.mk t_10_leave t_10_from_ t_10_to_ t_10_arrive))  _    qt_28)
            replace H := let_hid H
            obtain ⟨t_29, ht_29, H⟩ := H
            replace H := app_hid H
            replace H := app_hid H
            refine wp_region_quiet_below (by kernel_rfl) (by kernel_rfl) ?_
            repeat (go_big_quiet_step (first | (go_at_call 93; exact nt_16 _ _) | (go_at_call 94; exact nt_28 _ _)))
            refine wpQuiet_nil ?_
            intro Y6 hY6
            replace hY6 := below_class hY6
            clear nt_16 nt_28
            replace ct_10_0__601 := Hct_10_0__601.out
            clear Hct_10_0__601
            replace ct_10_1__602 := Hct_10_1__602.out
            clear Hct_10_1__602
            replace ct_10_2__603 := Hct_10_2__603.out
            clear Hct_10_2__603
            replace ct_10_3__604 := Hct_10_3__604.out
            clear Hct_10_3__604
            replace kx_12_0 := Hkx_12_0.out
            clear Hkx_12_0
            replace kx_12_1 := Hkx_12_1.out
            clear Hkx_12_1
            replace kx_12_2 := Hkx_12_2.out
            clear Hkx_12_2
            replace kx_12_3 := Hkx_12_3.out
            clear Hkx_12_3
            replace ct_25_0 := Hct_25_0.out
            clear Hct_25_0
            replace ct_25_1 := Hct_25_1.out
            clear Hct_25_1
            replace ct_25_2 := Hct_25_2.out
            clear Hct_25_2
            replace ct_25_3 := Hct_25_3.out
            clear Hct_25_3
            have HBY6 := Lib.hid (Below.step HBw_x_12.out hY6)
            replace ct_10_0__601 := cell_below hY6 ct_10_0__601
            replace ct_10_1__602 := cell_below hY6 ct_10_1__602
            replace ct_10_2__603 := cell_below hY6 ct_10_2__603
            replace ct_10_3__604 := cell_below hY6 ct_10_3__604
            replace kx_12_0 := cell_below hY6 kx_12_0
            replace kx_12_1 := cell_below hY6 kx_12_1
            replace kx_12_2 := cell_below hY6 kx_12_2
            replace kx_12_3 := cell_below hY6 kx_12_3
            replace ct_25_0 := cell_below hY6 ct_25_0
            replace ct_25_1 := cell_below hY6 ct_25_1
            replace ct_25_2 := cell_below hY6 ct_25_2
            replace ct_25_3 := cell_below hY6 ct_25_3
            clear hY6
            cases t_29 with
            | false =>
              replace H := ite_f H
              replace H := app_hid H
              go_wp2_with fail
              go_roundg m0
              case measure => omega
              case rel => exact ⟨k0 + 1, by omega, by go_num, H, HBY6⟩
            | true =>
              replace H := ite_t H
              obtain rfl := ret_hid H
              go_wp2_with fail
              go_ret
              exact ⟨rfl, HBY6.out⟩
  | true =>
    have nht_3 : 20 < list.length := by have := of_decide_eq_true ht_3; omega
    replace H := ite_t H
    obtain rfl := ret_hid H
    go_wp2_with fail
    go_ret
    exact ⟨rfl, HB.out⟩
end Go.Proofs.Ytfjcibkgbalkaaa.GiIsTimetable

/- loop.example/g01062/impl.canBegin as a plain function, and the contract of the program's: where the plain one has an answer, the program has it. Conditions: slices read as lists. -/
namespace Go.Proofs.Ytfjcibkgbalkaaa.GiCanBegin
set_option linter.unusedVariables false
set_option linter.unusedSimpArgs false
open Go.RowKit
open Go.Proofs.Ytfjcibkgbalkaaa.Rowed Go.Proofs.Ytfjcibkgbalkaaa.Turn Go.Proofs.Ytfjcibkgbalkaaa.Aid Go.Proofs.Ytfjcibkgbalkaaa.GoP Go.Proofs.Ytfjcibkgbalkaaa.GoM

def P (list : (List Go.Proofs.Ytfjcibkgbalkaaa.PMail.Mail)) (from_1 : Int) (minute : Int) : Option (Bool) :=
  Option.bind (Go.Proofs.Ytfjcibkgbalkaaa.GiIsTimetable.P list) fun (t_2 : Bool) =>
  joinK (fun (t_6 : Bool) =>
  joinK (fun (t_10 : Bool) =>
  some t_10) fun jt_10 => iteK t_6 (Option.bind (Go.Proofs.Ytfjcibkgbalkaaa.GiIsMinute.P minute) fun (t_9 : Bool) =>
  appK jt_10 t_9) (appK jt_10 false)) fun jt_6 => iteK t_2 (Option.bind (Go.Proofs.Ytfjcibkgbalkaaa.GiIsPostOffice.P from_1) fun (t_5 : Bool) =>
  appK jt_6 t_5) (appK jt_6 false)

set_option maxRecDepth 100000 in
set_option maxHeartbeats 2000000 in
theorem C (list : (List Go.Proofs.Ytfjcibkgbalkaaa.PMail.Mail)) (from_1 : Int) (minute : Int) (A0 : Option Addr) (c0 : Nat)  (w : World) (M0 : Hid (Cells w 4 A0 list.length (Go.Proofs.Ytfjcibkgbalkaaa.PMail.flat list))) (N0 : Hid (list.length ≤ 9223372036854775807))  {r : Bool} (H : Hid (P list from_1 minute = some r)) :
    Calls Try.prog 96 #[.slice A0 list.length c0, .int .i64 from_1, .int .i64 minute] w (Gives (.bool r) w) := by
  have HB := Lib.hid (Below.refl w.heap.size w)
  unfold P at H
  have N0o := N0.out
  go_enter Try.func96, Try.ntmps96
  replace H := bind_hid H
  obtain ⟨t_2, qt_2, H⟩ := H
  go_wp2_with fail
  go_at_call 34
  refine (Go.Proofs.Ytfjcibkgbalkaaa.GiIsTimetable.C (list) A0 c0 _   (Lib.hid (Cells.below M0.out HB.out)) N0 qt_2).mono ?_
  rintro e_t_2 wt_2 ⟨rfl, bt_2⟩
  have HBwt_2 := Lib.hid (Below.step HB.out bt_2)
  clear bt_2
  replace H := join_hid H
  cases t_2 with
  | false =>
    replace H := ite_f H
    replace H := app_hid H
    replace H := join_hid H
    replace H := ite_f H
    replace H := app_hid H
    obtain rfl := ret_hid H
    go_wp2_with fail
    go_ret
    exact ⟨rfl, HBwt_2.out⟩
  | true =>
    replace H := ite_t H
    replace H := bind_hid H
    obtain ⟨t_5, qt_5, H⟩ := H
    go_wp2_with fail
    go_at_call 97
    refine (Go.Proofs.Ytfjcibkgbalkaaa.GiIsPostOffice.C (from_1)  _    qt_5).mono ?_
    rintro e_t_5 wt_5 ⟨rfl, bt_5⟩
    have HBwt_5 := Lib.hid (Below.step HBwt_2.out bt_5)
    clear bt_5
    replace H := app_hid H
    replace H := join_hid H
    cases t_5 with
    | false =>
      replace H := ite_f H
      replace H := app_hid H
      obtain rfl := ret_hid H
      go_wp2_with fail
      go_ret
      exact ⟨rfl, HBwt_5.out⟩
    | true =>
      replace H := ite_t H
      replace H := bind_hid H
      obtain ⟨t_9, qt_9, H⟩ := H
      go_wp2_with fail
      go_at_call 102
      refine (Go.Proofs.Ytfjcibkgbalkaaa.GiIsMinute.C (minute)  _    qt_9).mono ?_
      rintro e_t_9 wt_9 ⟨rfl, bt_9⟩
      have HBwt_9 := Lib.hid (Below.step HBwt_5.out bt_9)
      clear bt_9
      replace H := app_hid H
      obtain rfl := ret_hid H
      go_wp2_with fail
      go_ret
      exact ⟨rfl, HBwt_9.out⟩
end Go.Proofs.Ytfjcibkgbalkaaa.GiCanBegin

/- Words on arrays that are variables, and on jumps back to a label. No condition but those of each theorem. -/
namespace Go.Proofs.Ytfjcibkgbalkaaa.GoA
set_option linter.unusedVariables false
open Go.RowKit
open Go.Proofs.Ytfjcibkgbalkaaa.HelpInt

/-- the number at a place of an array's list -/
def nth (l : List Int) (j : Nat) : Int := l.getD j 0
theorem row_at {w : World} {b T n c g : Nat} {l : List Int} (h : w.ownsRow b T 1 (.slice (some ⟨g, 0, none⟩) n c) n (iv l)) (hl : l.length = n) (j : Nat) (hj : j < n) : w.cell? ⟨g, j, none⟩ = some (.int .i64 (nth l j)) := by
  unfold nth
  have hc := h.cells rfl j (.int .i64 (l.getD j 0)) (by
    rw [iv_at, List.getD_eq_getElem?_getD, List.getElem?_eq_getElem (show j < l.length by omega)]; rfl)
  rw [add_none] at hc
  simpa using hc

/-- what holds at a jump to a label: a relation that bears a number, which each pass from the label to the next jump lowers -/
def Jumps (P : Program) (rest : Code) (l : Nat) (Q : Exit → Act → World → Prop) (a : Act) (w : World) (m : Nat) : Prop :=
  ∃ J : Nat → Act → World → Prop, J m a w ∧ ∀ m a w, J m a w → rest.wp P (Exit.jump l (Handed J m) Q) a w

theorem jump_mono {l : Nat} {J J' : Act → World → Prop} {Q : Exit → Act → World → Prop} (h : ∀ a w, J a w → J' a w) : ∀ e a w, Exit.jump l J Q e a w → Exit.jump l J' Q e a w := by
  intro e a w he
  cases e with
  | goto l' => exact ⟨he.1, h _ _ he.2⟩
  | _ => exact he

theorem wp_scope_goto {P : Program} {A rest : Code} {l : Nat} {Q : Exit → Act → World → Prop} {a : Act} {w : World} (hf : findLabel (Code.seq A (Code.seq (Code.label l) rest)) l = some (Code.seq Code.skip rest))
    (first : ∀ K : Act → World → Prop, (∀ a w, (∃ m, Jumps P rest l Q a w m) → K a w) → A.wp P (Exit.then K (fun _ _ _ => False)) a w) :
    (Code.scope (Code.seq A (Code.seq (Code.label l) rest))).wp P Q a w := by
  have pass : ∀ m a w, Jumps P rest l Q a w m → rest.wp P (Exit.jump l (fun a' w' => ∃ m', m' < m ∧ Jumps P rest l Q a' w' m') Q) a w := by
    rintro m a w ⟨J, hJ, hp⟩
    refine wp_mono (hp m a w hJ) (jump_mono ?_)
    rintro a' w' ⟨m', hlt, hJ'⟩
    exact ⟨m', hlt, J, hJ', hp⟩
  refine wp_scope_jumps l (fun a w => ∃ m, Jumps P rest l Q a w m) (fun a w => leastOf (Jumps P rest l Q a w)) hf ?_ ?_
  · refine wp_seq (wp_mono (first _ fun _ _ h => h) ?_)
    intro e a1 w1 he
    cases e with
    | normal =>
      obtain ⟨m, hm⟩ := he
      refine wp_seq (wp_label ?_)
      refine wp_mono (pass m a1 w1 hm) (jump_mono ?_)
      rintro a' w' ⟨m', _, h'⟩
      exact ⟨m', h'⟩
    | _ => exact he.elim
  · intro a1 w1 h1
    refine wp_seq (wp_skip ?_)
    have hl := (leastOf_spec h1).1
    refine wp_mono (pass _ a1 w1 hl) (jump_mono ?_)
    rintro a' w' ⟨m', hlt, h'⟩
    exact ⟨⟨m', h'⟩, Nat.lt_of_le_of_lt ((leastOf_spec ⟨m', h'⟩).2 m' h') hlt⟩

/-- the frame with the slots that are marked put to new values -/
def over (u : Nat → Value) : List Bool → Nat → List Value → List Value
  | true :: bs, i, _ :: l => u i :: over u bs (i + 1) l
  | false :: bs, i, v :: l => v :: over u bs (i + 1) l
  | [], _, l => l
  | _ :: _, _, [] => []
theorem over_self (bs : List Bool) : ∀ (i : Nat) (l : List Value) (u : Nat → Value), (∀ j, j < l.length → u (i + j) = l.getD j undef) → over u bs i l = l := by
  induction bs with
  | nil => intro i l u h; cases l <;> rfl
  | cons b bs ih =>
    intro i l u h
    cases l with
    | nil => cases b <;> rfl
    | cons v l =>
      have h0 := h 0 (by simp)
      have ht := ih (i + 1) l u (fun j hj => by
        have := h (j + 1) (by simp; omega)
        rw [show i + 1 + j = i + (j + 1) by omega, this]; rfl)
      cases b
      · show v :: over u bs (i + 1) l = _; rw [ht]
      · show u i :: over u bs (i + 1) l = _; rw [ht]
        have : u i = v := h0
        rw [this]
/-- the pass from the label, as the walk wants it: the frame stands at the label the first time; the marked slots change -/
theorem jumps_intro {P : Program} {rest : Code} {l : Nat} {Q : Exit → Act → World → Prop} {ts : List Value} {de : List Deferred} {w : World} (bs : List Bool) (m : Nat) (R : Nat → (Nat → Value) → World → Prop)
    (start : R m (fun i => ts.getD i undef) w)
    (pass : ∀ m u w, R m u w → ∀ J : Nat → Act → World → Prop, (∀ m u w a, a = ⟨(over u bs 0 ts).toArray, de⟩ → R m u w → J m a w) → rest.wp P (Exit.jump l (Handed J m) Q) ⟨(over u bs 0 ts).toArray, de⟩ w) :
    ∃ m, Jumps P rest l Q ⟨ts.toArray, de⟩ w m := by
  refine ⟨m, fun m a w => ∃ u, a = ⟨(over u bs 0 ts).toArray, de⟩ ∧ R m u w, ⟨fun i => ts.getD i undef, ?_, start⟩, ?_⟩
  · rw [over_self bs 0 ts _ (fun j _ => by rw [Nat.zero_add])]
  · rintro m a w ⟨u, rfl, hR⟩
    exact pass m u w hR _ fun m u w a e h => ⟨u, e, h⟩
theorem handed_goto {J : Nat → Act → World → Prop} {R : Nat → (Nat → Value) → World → Prop} {bs : List Bool} {ts ts' : List Value} {de : List Deferred} {w : World} {m : Nat}
    (hJ : ∀ m u w a, a = ⟨(over u bs 0 ts).toArray, de⟩ → R m u w → J m a w) (m' : Nat) (hlt : m' < m) (he : ts' = over (fun i => ts'.getD i undef) bs 0 ts) (hR : R m' (fun i => ts'.getD i undef) w) : Handed J m ⟨ts'.toArray, de⟩ w :=
  Handed.intro m' hlt (hJ m' _ w _ (congrArg (fun z => (⟨z.toArray, de⟩ : Act)) he) hR)
end Go.Proofs.Ytfjcibkgbalkaaa.GoA

/- loop.example/g01062/impl.filledWith as a plain function, and the contract of the program's: where the plain one has an answer, the program has it. Conditions: slices read as lists. -/
namespace Go.Proofs.Ytfjcibkgbalkaaa.GiFilledWith
set_option linter.unusedVariables false
set_option linter.unusedSimpArgs false
open Go.RowKit
open Go.Proofs.Ytfjcibkgbalkaaa.Rowed Go.Proofs.Ytfjcibkgbalkaaa.Turn Go.Proofs.Ytfjcibkgbalkaaa.Aid Go.Proofs.Ytfjcibkgbalkaaa.GoP Go.Proofs.Ytfjcibkgbalkaaa.GoM

def l0 (minute : Int) (k0 : Nat) (s : (List Int)) (nx0 bk0 : (List Int) → Option (Go.Proofs.Ytfjcibkgbalkaaa.PIntA10.IntA10)) : Option (Go.Proofs.Ytfjcibkgbalkaaa.PIntA10.IntA10) :=
  letK s fun minutes_3l0 =>
  Option.bind (idx minutes_3l0 (k0 : Int)) fun (yt_8 : Int) =>
  letK (minutes_3l0.set k0 minute) fun (l9_9 : (List Int)) =>
  appK nx0 (l9_9)

def e0  (s : (List Int)) : Option (Go.Proofs.Ytfjcibkgbalkaaa.PIntA10.IntA10) :=
  letK s fun minutes_3l0 =>
  some (Go.Proofs.Ytfjcibkgbalkaaa.PIntA10.IntA10.mk (Go.Proofs.Ytfjcibkgbalkaaa.GoA.nth minutes_3l0 0) (Go.Proofs.Ytfjcibkgbalkaaa.GoA.nth minutes_3l0 1) (Go.Proofs.Ytfjcibkgbalkaaa.GoA.nth minutes_3l0 2) (Go.Proofs.Ytfjcibkgbalkaaa.GoA.nth minutes_3l0 3) (Go.Proofs.Ytfjcibkgbalkaaa.GoA.nth minutes_3l0 4) (Go.Proofs.Ytfjcibkgbalkaaa.GoA.nth minutes_3l0 5) (Go.Proofs.Ytfjcibkgbalkaaa.GoA.nth minutes_3l0 6) (Go.Proofs.Ytfjcibkgbalkaaa.GoA.nth minutes_3l0 7) (Go.Proofs.Ytfjcibkgbalkaaa.GoA.nth minutes_3l0 8) (Go.Proofs.Ytfjcibkgbalkaaa.GoA.nth minutes_3l0 9))

def P (minute : Int) : Option (Go.Proofs.Ytfjcibkgbalkaaa.PIntA10.IntA10) :=
  letK ([0, 0, 0, 0, 0, 0, 0, 0, 0, 0]) fun (vminutes_1 : (List Int)) =>
  cntK (l0 minute) (10) 0 (vminutes_1) (e0 )

set_option maxRecDepth 100000 in
set_option maxHeartbeats 2000000 in
theorem C (minute : Int)   (w : World)   {r : Go.Proofs.Ytfjcibkgbalkaaa.PIntA10.IntA10} (H : Hid (P minute = some r)) :
    Calls Try.prog 115 #[.int .i64 minute] w (Gives ((Go.Proofs.Ytfjcibkgbalkaaa.PIntA10.IntA10.val r)) w) := by
  have HB := Lib.hid (Below.refl w.heap.size w)
  unfold P at H
  go_enter Try.func115, Try.ntmps115
  obtain ⟨w_t_0, hw_t_0⟩ : ∃ x, w.alloc (.cells #[.int .i64 0, .int .i64 0, .int .i64 0, .int .i64 0, .int .i64 0, .int .i64 0, .int .i64 0, .int .i64 0, .int .i64 0, .int .i64 0] 92) = x := ⟨_, rfl⟩
  have bw_t_0 : Below w.heap.size w w_t_0 := by rw [← hw_t_0]; exact (Below.refl _ _).alloc (Nat.le_refl _) _
  have HBw_t_0 := Lib.hid (Below.step HB.out bw_t_0)
  clear bw_t_0
  have kt_0_0 : w_t_0.cell? ⟨w.heap.size, 0, none⟩ = some (.int .i64 0) := by rw [← hw_t_0]; exact box_new _ _ _ 0 _ rfl
  have kt_0_1 : w_t_0.cell? ⟨w.heap.size, 1, none⟩ = some (.int .i64 0) := by rw [← hw_t_0]; exact box_new _ _ _ 1 _ rfl
  have kt_0_2 : w_t_0.cell? ⟨w.heap.size, 2, none⟩ = some (.int .i64 0) := by rw [← hw_t_0]; exact box_new _ _ _ 2 _ rfl
  have kt_0_3 : w_t_0.cell? ⟨w.heap.size, 3, none⟩ = some (.int .i64 0) := by rw [← hw_t_0]; exact box_new _ _ _ 3 _ rfl
  have kt_0_4 : w_t_0.cell? ⟨w.heap.size, 4, none⟩ = some (.int .i64 0) := by rw [← hw_t_0]; exact box_new _ _ _ 4 _ rfl
  have kt_0_5 : w_t_0.cell? ⟨w.heap.size, 5, none⟩ = some (.int .i64 0) := by rw [← hw_t_0]; exact box_new _ _ _ 5 _ rfl
  have kt_0_6 : w_t_0.cell? ⟨w.heap.size, 6, none⟩ = some (.int .i64 0) := by rw [← hw_t_0]; exact box_new _ _ _ 6 _ rfl
  have kt_0_7 : w_t_0.cell? ⟨w.heap.size, 7, none⟩ = some (.int .i64 0) := by rw [← hw_t_0]; exact box_new _ _ _ 7 _ rfl
  have kt_0_8 : w_t_0.cell? ⟨w.heap.size, 8, none⟩ = some (.int .i64 0) := by rw [← hw_t_0]; exact box_new _ _ _ 8 _ rfl
  have kt_0_9 : w_t_0.cell? ⟨w.heap.size, 9, none⟩ = some (.int .i64 0) := by rw [← hw_t_0]; exact box_new _ _ _ 9 _ rfl
  have Ot_0 : Hid (w_t_0.ownsRow w.heap.size 92 10 (.slice (some ⟨w.heap.size, 0, none⟩) 1 1) 1 [.int .i64 0, .int .i64 0, .int .i64 0, .int .i64 0, .int .i64 0, .int .i64 0, .int .i64 0, .int .i64 0, .int .i64 0, .int .i64 0]) := Lib.hid (by rw [← hw_t_0]; exact own_laid (n := 1) HB.out.size rfl rfl (by unfold maxLen; omega))
  replace H := let_hid H
  obtain ⟨vminutes_1, hvminutes_1, H⟩ := H
  obtain ⟨w_minutes_1, hw_minutes_1⟩ : ∃ x, w_t_0.alloc (.cells #[.int .i64 0, .int .i64 0, .int .i64 0, .int .i64 0, .int .i64 0, .int .i64 0, .int .i64 0, .int .i64 0, .int .i64 0, .int .i64 0] 92) = x := ⟨_, rfl⟩
  have bw_minutes_1 : Below w_t_0.heap.size w_t_0 w_minutes_1 := by rw [← hw_minutes_1]; exact (Below.refl _ _).alloc (Nat.le_refl _) _
  have hs_minutes_1 := HBw_t_0.out.size
  have nminutes_1 : vminutes_1.length = 10 := by rw [← hvminutes_1]; rfl
  have Ominutes_1 : Hid (w_minutes_1.ownsRow w.heap.size 92 1 (.slice (some ⟨w_t_0.heap.size, 0, none⟩) 10 10) 10 (Go.Proofs.Ytfjcibkgbalkaaa.HelpInt.iv vminutes_1)) := by
    rw [← hw_minutes_1, ← hvminutes_1]
    have e_ : ([.int .i64 0, .int .i64 0, .int .i64 0, .int .i64 0, .int .i64 0, .int .i64 0, .int .i64 0, .int .i64 0, .int .i64 0, .int .i64 0] : List Value) = Go.Proofs.Ytfjcibkgbalkaaa.HelpInt.iv [0, 0, 0, 0, 0, 0, 0, 0, 0, 0] := rfl
    exact Lib.hid (own_laid (n := 10) hs_minutes_1 e_ rfl (by unfold maxLen; omega))
  clear hs_minutes_1
  have hhminutes_1 := Lib.hid hvminutes_1
  clear hvminutes_1
  replace nminutes_1 := Lib.hid nminutes_1
  have Dminutes_1_t_0 := Lib.hid (apart_box kt_0_0)
  have HBw_minutes_1 := Lib.hid (Below.step HBw_t_0.out bw_minutes_1)
  have kt_0_0__605 := cell_below bw_minutes_1 kt_0_0
  have kt_0_1__606 := cell_below bw_minutes_1 kt_0_1
  have kt_0_2__607 := cell_below bw_minutes_1 kt_0_2
  have kt_0_3__608 := cell_below bw_minutes_1 kt_0_3
  have kt_0_4__609 := cell_below bw_minutes_1 kt_0_4
  have kt_0_5__610 := cell_below bw_minutes_1 kt_0_5
  have kt_0_6__611 := cell_below bw_minutes_1 kt_0_6
  have kt_0_7__612 := cell_below bw_minutes_1 kt_0_7
  have kt_0_8__613 := cell_below bw_minutes_1 kt_0_8
  have kt_0_9__614 := cell_below bw_minutes_1 kt_0_9
  replace Ot_0 := Lib.hid (own_below Ot_0.out bw_minutes_1)
  clear bw_minutes_1
  go_wp2_with fail
  clear kt_0_0 kt_0_1 kt_0_2 kt_0_3 kt_0_4 kt_0_5 kt_0_6 kt_0_7 kt_0_8 kt_0_9
  go_wp2_with fail
  go_loopg [5] (10) (fun m_ v5_ wr => ∃ (k0 : Nat) (minutes_3l0 : (List Int)), k0 + m_ = 10 ∧ v5_ = .int .i64 (k0 : Int) ∧ Hid (cntK (l0 minute) m_ k0 (minutes_3l0) (e0 ) = some r) ∧ Hid (Below w.heap.size w wr) ∧ wr.cell? ⟨w.heap.size, 0, none⟩ = some (.int .i64 0) ∧ wr.cell? ⟨w.heap.size, 1, none⟩ = some (.int .i64 0) ∧ wr.cell? ⟨w.heap.size, 2, none⟩ = some (.int .i64 0) ∧ wr.cell? ⟨w.heap.size, 3, none⟩ = some (.int .i64 0) ∧ wr.cell? ⟨w.heap.size, 4, none⟩ = some (.int .i64 0) ∧ wr.cell? ⟨w.heap.size, 5, none⟩ = some (.int .i64 0) ∧ wr.cell? ⟨w.heap.size, 6, none⟩ = some (.int .i64 0) ∧ wr.cell? ⟨w.heap.size, 7, none⟩ = some (.int .i64 0) ∧ wr.cell? ⟨w.heap.size, 8, none⟩ = some (.int .i64 0) ∧ wr.cell? ⟨w.heap.size, 9, none⟩ = some (.int .i64 0) ∧ Hid (wr.ownsRow w.heap.size 92 10 (.slice (some ⟨w.heap.size, 0, none⟩) 1 1) 1 [.int .i64 0, .int .i64 0, .int .i64 0, .int .i64 0, .int .i64 0, .int .i64 0, .int .i64 0, .int .i64 0, .int .i64 0, .int .i64 0]) ∧ Hid (wr.ownsRow w.heap.size 92 1 (.slice (some ⟨w_t_0.heap.size, 0, none⟩) 10 10) 10 (Go.Proofs.Ytfjcibkgbalkaaa.HelpInt.iv minutes_3l0)) ∧ Hid (minutes_3l0.length = 10) ∧ Hid (Apart (some ⟨w_t_0.heap.size, 0, none⟩) (some ⟨w.heap.size, 0, none⟩)))
  case atStart => exact ⟨0, _, by omega, rfl, H, HBw_minutes_1, kt_0_0__605, kt_0_1__606, kt_0_2__607, kt_0_3__608, kt_0_4__609, kt_0_5__610, kt_0_6__611, kt_0_7__612, kt_0_8__613, kt_0_9__614, Ot_0, Ominutes_1, Lib.hid (nminutes_1.out), Lib.hid Dminutes_1_t_0.out⟩
  case round =>
    obtain ⟨k0, minutes_3l0, hkm0, rfl, H, HBwr0, kt_0_0__605, kt_0_1__606, kt_0_2__607, kt_0_3__608, kt_0_4__609, kt_0_5__610, kt_0_6__611, kt_0_7__612, kt_0_8__613, kt_0_9__614, Ot_0, Ominutes_3l0, hnminutes_3l0, Dminutes_3l0_t_0⟩ := hrel
    rename World => wr0
    cases gk with
    | zero =>
      obtain rfl : k0 = 10 := by omega
      have hc0 : decide (((10 : Nat) : Int) < ((10 : Nat) : Int)) = false := by simp
      replace H := cnt_zero H
      unfold e0 at H
      replace H := let_hid H
      obtain ⟨_, rfl, H⟩ := H
      have ka_615 : wr0.cell? ⟨w_t_0.heap.size, 0, none⟩ = some (.int .i64 (Go.Proofs.Ytfjcibkgbalkaaa.GoA.nth minutes_3l0 0)) := Go.Proofs.Ytfjcibkgbalkaaa.GoA.row_at Ominutes_3l0.out hnminutes_3l0.out 0 (by omega)
      have ka_616 : wr0.cell? ⟨w_t_0.heap.size, 1, none⟩ = some (.int .i64 (Go.Proofs.Ytfjcibkgbalkaaa.GoA.nth minutes_3l0 1)) := Go.Proofs.Ytfjcibkgbalkaaa.GoA.row_at Ominutes_3l0.out hnminutes_3l0.out 1 (by omega)
      have ka_617 : wr0.cell? ⟨w_t_0.heap.size, 2, none⟩ = some (.int .i64 (Go.Proofs.Ytfjcibkgbalkaaa.GoA.nth minutes_3l0 2)) := Go.Proofs.Ytfjcibkgbalkaaa.GoA.row_at Ominutes_3l0.out hnminutes_3l0.out 2 (by omega)
      have ka_618 : wr0.cell? ⟨w_t_0.heap.size, 3, none⟩ = some (.int .i64 (Go.Proofs.Ytfjcibkgbalkaaa.GoA.nth minutes_3l0 3)) := Go.Proofs.Ytfjcibkgbalkaaa.GoA.row_at Ominutes_3l0.out hnminutes_3l0.out 3 (by omega)
      have ka_619 : wr0.cell? ⟨w_t_0.heap.size, 4, none⟩ = some (.int .i64 (Go.Proofs.Ytfjcibkgbalkaaa.GoA.nth minutes_3l0 4)) := Go.Proofs.Ytfjcibkgbalkaaa.GoA.row_at Ominutes_3l0.out hnminutes_3l0.out 4 (by omega)
      have ka_620 : wr0.cell? ⟨w_t_0.heap.size, 5, none⟩ = some (.int .i64 (Go.Proofs.Ytfjcibkgbalkaaa.GoA.nth minutes_3l0 5)) := Go.Proofs.Ytfjcibkgbalkaaa.GoA.row_at Ominutes_3l0.out hnminutes_3l0.out 5 (by omega)
      have ka_621 : wr0.cell? ⟨w_t_0.heap.size, 6, none⟩ = some (.int .i64 (Go.Proofs.Ytfjcibkgbalkaaa.GoA.nth minutes_3l0 6)) := Go.Proofs.Ytfjcibkgbalkaaa.GoA.row_at Ominutes_3l0.out hnminutes_3l0.out 6 (by omega)
      have ka_622 : wr0.cell? ⟨w_t_0.heap.size, 7, none⟩ = some (.int .i64 (Go.Proofs.Ytfjcibkgbalkaaa.GoA.nth minutes_3l0 7)) := Go.Proofs.Ytfjcibkgbalkaaa.GoA.row_at Ominutes_3l0.out hnminutes_3l0.out 7 (by omega)
      have ka_623 : wr0.cell? ⟨w_t_0.heap.size, 8, none⟩ = some (.int .i64 (Go.Proofs.Ytfjcibkgbalkaaa.GoA.nth minutes_3l0 8)) := Go.Proofs.Ytfjcibkgbalkaaa.GoA.row_at Ominutes_3l0.out hnminutes_3l0.out 8 (by omega)
      have ka_624 : wr0.cell? ⟨w_t_0.heap.size, 9, none⟩ = some (.int .i64 (Go.Proofs.Ytfjcibkgbalkaaa.GoA.nth minutes_3l0 9)) := Go.Proofs.Ytfjcibkgbalkaaa.GoA.row_at Ominutes_3l0.out hnminutes_3l0.out 9 (by omega)
      obtain ⟨wb13_13, hwb13_13⟩ : ∃ x, ((((((((((wr0).setCell ⟨w.heap.size, 0, none⟩ (.int .i64 (Go.Proofs.Ytfjcibkgbalkaaa.GoA.nth minutes_3l0 0))).setCell ⟨w.heap.size, 1, none⟩ (.int .i64 (Go.Proofs.Ytfjcibkgbalkaaa.GoA.nth minutes_3l0 1))).setCell ⟨w.heap.size, 2, none⟩ (.int .i64 (Go.Proofs.Ytfjcibkgbalkaaa.GoA.nth minutes_3l0 2))).setCell ⟨w.heap.size, 3, none⟩ (.int .i64 (Go.Proofs.Ytfjcibkgbalkaaa.GoA.nth minutes_3l0 3))).setCell ⟨w.heap.size, 4, none⟩ (.int .i64 (Go.Proofs.Ytfjcibkgbalkaaa.GoA.nth minutes_3l0 4))).setCell ⟨w.heap.size, 5, none⟩ (.int .i64 (Go.Proofs.Ytfjcibkgbalkaaa.GoA.nth minutes_3l0 5))).setCell ⟨w.heap.size, 6, none⟩ (.int .i64 (Go.Proofs.Ytfjcibkgbalkaaa.GoA.nth minutes_3l0 6))).setCell ⟨w.heap.size, 7, none⟩ (.int .i64 (Go.Proofs.Ytfjcibkgbalkaaa.GoA.nth minutes_3l0 7))).setCell ⟨w.heap.size, 8, none⟩ (.int .i64 (Go.Proofs.Ytfjcibkgbalkaaa.GoA.nth minutes_3l0 8))).setCell ⟨w.heap.size, 9, none⟩ (.int .i64 (Go.Proofs.Ytfjcibkgbalkaaa.GoA.nth minutes_3l0 9)) = x := ⟨_, rfl⟩
      have z0b13_13 := Ot_0.out.frozenAt 0
      have z1b13_13 := Ot_0.out.frozenAt 1
      have z2b13_13 := Ot_0.out.frozenAt 2
      have z3b13_13 := Ot_0.out.frozenAt 3
      have z4b13_13 := Ot_0.out.frozenAt 4
      have z5b13_13 := Ot_0.out.frozenAt 5
      have z6b13_13 := Ot_0.out.frozenAt 6
      have z7b13_13 := Ot_0.out.frozenAt 7
      have z8b13_13 := Ot_0.out.frozenAt 8
      have z9b13_13 := Ot_0.out.frozenAt 9
      have Sb13_13 := Lib.hid (own_stores [(0, .int .i64 (Go.Proofs.Ytfjcibkgbalkaaa.GoA.nth minutes_3l0 0)), (1, .int .i64 (Go.Proofs.Ytfjcibkgbalkaaa.GoA.nth minutes_3l0 1)), (2, .int .i64 (Go.Proofs.Ytfjcibkgbalkaaa.GoA.nth minutes_3l0 2)), (3, .int .i64 (Go.Proofs.Ytfjcibkgbalkaaa.GoA.nth minutes_3l0 3)), (4, .int .i64 (Go.Proofs.Ytfjcibkgbalkaaa.GoA.nth minutes_3l0 4)), (5, .int .i64 (Go.Proofs.Ytfjcibkgbalkaaa.GoA.nth minutes_3l0 5)), (6, .int .i64 (Go.Proofs.Ytfjcibkgbalkaaa.GoA.nth minutes_3l0 6)), (7, .int .i64 (Go.Proofs.Ytfjcibkgbalkaaa.GoA.nth minutes_3l0 7)), (8, .int .i64 (Go.Proofs.Ytfjcibkgbalkaaa.GoA.nth minutes_3l0 8)), (9, .int .i64 (Go.Proofs.Ytfjcibkgbalkaaa.GoA.nth minutes_3l0 9))] Ot_0.out)
      have Pb13_13 : Hid (wb13_13.ownsRow w.heap.size 92 10 (.slice (some ⟨w.heap.size, 0, none⟩) 1 1) 1 [.int .i64 (Go.Proofs.Ytfjcibkgbalkaaa.GoA.nth minutes_3l0 0), .int .i64 (Go.Proofs.Ytfjcibkgbalkaaa.GoA.nth minutes_3l0 1), .int .i64 (Go.Proofs.Ytfjcibkgbalkaaa.GoA.nth minutes_3l0 2), .int .i64 (Go.Proofs.Ytfjcibkgbalkaaa.GoA.nth minutes_3l0 3), .int .i64 (Go.Proofs.Ytfjcibkgbalkaaa.GoA.nth minutes_3l0 4), .int .i64 (Go.Proofs.Ytfjcibkgbalkaaa.GoA.nth minutes_3l0 5), .int .i64 (Go.Proofs.Ytfjcibkgbalkaaa.GoA.nth minutes_3l0 6), .int .i64 (Go.Proofs.Ytfjcibkgbalkaaa.GoA.nth minutes_3l0 7), .int .i64 (Go.Proofs.Ytfjcibkgbalkaaa.GoA.nth minutes_3l0 8), .int .i64 (Go.Proofs.Ytfjcibkgbalkaaa.GoA.nth minutes_3l0 9)]) := Lib.hid (by rw [← hwb13_13]; exact Sb13_13.out.1)
      have Gb13_13 : Hid (wr0.grownBy wb13_13 (Value.slice (some ⟨w.heap.size, 0, none⟩) 1 1).ownBlock) := Lib.hid (by rw [← hwb13_13]; exact Sb13_13.out.2)
      have HBwb13_13 := Lib.hid (HBwr0.out.grown Gb13_13.out HBwr0.out.size (fun q hq => (Ot_0.out.lt q hq).1))
      clear Sb13_13
      replace Ominutes_3l0 := Lib.hid (own_other Ominutes_3l0.out Gb13_13.out (Apart.symm Dminutes_3l0_t_0.out))
      clear Ot_0 Gb13_13
      have kt_0_0__625 : wb13_13.cell? ⟨w.heap.size, 0, none⟩ = some (.int .i64 (Go.Proofs.Ytfjcibkgbalkaaa.GoA.nth minutes_3l0 0)) := Pb13_13.out.cells rfl 0 _ rfl
      have kt_0_1__626 : wb13_13.cell? ⟨w.heap.size, 1, none⟩ = some (.int .i64 (Go.Proofs.Ytfjcibkgbalkaaa.GoA.nth minutes_3l0 1)) := Pb13_13.out.cells rfl 1 _ rfl
      have kt_0_2__627 : wb13_13.cell? ⟨w.heap.size, 2, none⟩ = some (.int .i64 (Go.Proofs.Ytfjcibkgbalkaaa.GoA.nth minutes_3l0 2)) := Pb13_13.out.cells rfl 2 _ rfl
      have kt_0_3__628 : wb13_13.cell? ⟨w.heap.size, 3, none⟩ = some (.int .i64 (Go.Proofs.Ytfjcibkgbalkaaa.GoA.nth minutes_3l0 3)) := Pb13_13.out.cells rfl 3 _ rfl
      have kt_0_4__629 : wb13_13.cell? ⟨w.heap.size, 4, none⟩ = some (.int .i64 (Go.Proofs.Ytfjcibkgbalkaaa.GoA.nth minutes_3l0 4)) := Pb13_13.out.cells rfl 4 _ rfl
      have kt_0_5__630 : wb13_13.cell? ⟨w.heap.size, 5, none⟩ = some (.int .i64 (Go.Proofs.Ytfjcibkgbalkaaa.GoA.nth minutes_3l0 5)) := Pb13_13.out.cells rfl 5 _ rfl
      have kt_0_6__631 : wb13_13.cell? ⟨w.heap.size, 6, none⟩ = some (.int .i64 (Go.Proofs.Ytfjcibkgbalkaaa.GoA.nth minutes_3l0 6)) := Pb13_13.out.cells rfl 6 _ rfl
      have kt_0_7__632 : wb13_13.cell? ⟨w.heap.size, 7, none⟩ = some (.int .i64 (Go.Proofs.Ytfjcibkgbalkaaa.GoA.nth minutes_3l0 7)) := Pb13_13.out.cells rfl 7 _ rfl
      have kt_0_8__633 : wb13_13.cell? ⟨w.heap.size, 8, none⟩ = some (.int .i64 (Go.Proofs.Ytfjcibkgbalkaaa.GoA.nth minutes_3l0 8)) := Pb13_13.out.cells rfl 8 _ rfl
      have kt_0_9__634 : wb13_13.cell? ⟨w.heap.size, 9, none⟩ = some (.int .i64 (Go.Proofs.Ytfjcibkgbalkaaa.GoA.nth minutes_3l0 9)) := Pb13_13.out.cells rfl 9 _ rfl
      cases ret_hid H
      go_wp2_with fail
      (try simp only [Exit.inBlock, Exit.then])
      refine bodyPost_ret (v := .agg #[.int .i64 (Go.Proofs.Ytfjcibkgbalkaaa.GoA.nth minutes_3l0 0), .int .i64 (Go.Proofs.Ytfjcibkgbalkaaa.GoA.nth minutes_3l0 1), .int .i64 (Go.Proofs.Ytfjcibkgbalkaaa.GoA.nth minutes_3l0 2), .int .i64 (Go.Proofs.Ytfjcibkgbalkaaa.GoA.nth minutes_3l0 3), .int .i64 (Go.Proofs.Ytfjcibkgbalkaaa.GoA.nth minutes_3l0 4), .int .i64 (Go.Proofs.Ytfjcibkgbalkaaa.GoA.nth minutes_3l0 5), .int .i64 (Go.Proofs.Ytfjcibkgbalkaaa.GoA.nth minutes_3l0 6), .int .i64 (Go.Proofs.Ytfjcibkgbalkaaa.GoA.nth minutes_3l0 7), .int .i64 (Go.Proofs.Ytfjcibkgbalkaaa.GoA.nth minutes_3l0 8), .int .i64 (Go.Proofs.Ytfjcibkgbalkaaa.GoA.nth minutes_3l0 9)]) ?hr_ ?hd_ ?_
      case hd_ => rfl
      case hr_ => simp [results, Try.results115, kt_0_0__625, kt_0_1__626, kt_0_2__627, kt_0_3__628, kt_0_4__629, kt_0_5__630, kt_0_6__631, kt_0_7__632, kt_0_8__633, kt_0_9__634, go_sem]
      exact ⟨rfl, HBwb13_13.out⟩
    | succ m0 =>
      have hlt0 : k0 < 10 := by omega
      have hc0 : decide ((k0 : Int) < ((10 : Nat) : Int)) = true := by simp; omega
      replace H := cnt_succ H
      have hd0 : decide ((k0 : Int) < 10) = true := by simp; omega
      unfold l0 at H
      replace H := let_hid H
      obtain ⟨_, rfl, H⟩ := H
      replace H := idx_hid H
      obtain ⟨nt_8, yt_8, et_8, lt_8, gt_8, H⟩ := H
      obtain rfl : k0 = nt_8 := by omega
      clear et_8
      have hqt_8 := hnminutes_3l0.out
      obtain ⟨ab_t_8, ao_t_8, zt_8, At_8, z_t_8, ct_8_0⟩ := Go.Proofs.Ytfjcibkgbalkaaa.HelpInt.Ints.at_ (own_cells Ominutes_3l0.out) (k := k0) (by omega)
      obtain rfl := Option.some.inj (gt_8.out.symm.trans z_t_8)
      simp only [Option.some.injEq, Addr.mk.injEq] at At_8
      obtain ⟨rfl, rfl, _⟩ := At_8
      clear z_t_8
      simp only [Nat.zero_add] at ct_8_0
      have b0t_8 : (0 : Int) ≤ (k0 : Int) := by omega
      have b1t_8 : (k0 : Int) < ((10 : Nat) : Int) := by omega
      have b2t_8 : ((k0 : Int)).toNat = k0 := by omega
      clear hqt_8
      have b3t_8 : k0 < 10 := by have h_ := lt_8; have hn_ := hnminutes_3l0.out; omega
      have b4t_8 : (k0 : Int) < (10 : Int) := by omega
      replace H := let_hid H
      obtain ⟨l9_9, hl9_9, H⟩ := H
      try simp only [Int.toNat_natCast] at hl9_9
      obtain ⟨wl9_9, hwl9_9⟩ : ∃ x, (wr0).setCell ⟨w_t_0.heap.size, k0, none⟩ (.int .i64 minute) = x := ⟨_, rfl⟩
      have z0l9_9 := Ominutes_3l0.out.frozenAt (k0)
      have Sl9_9 := Lib.hid (own_stores [(k0, .int .i64 minute)] Ominutes_3l0.out)
      have nl9_9 : Hid (l9_9.length = 10) := Lib.hid (by rw [← hl9_9, List.length_set]; exact hnminutes_3l0.out)
      have Pl9_9 : Hid (wl9_9.ownsRow w.heap.size 92 1 (.slice (some ⟨w_t_0.heap.size, 0, none⟩) 10 10) 10 (Go.Proofs.Ytfjcibkgbalkaaa.HelpInt.iv l9_9)) := Lib.hid (by have e_ : ([(k0, .int .i64 minute)] : List (Nat × Value)).foldl (fun xs p => xs.set p.1 p.2) (Go.Proofs.Ytfjcibkgbalkaaa.HelpInt.iv minutes_3l0) = (Go.Proofs.Ytfjcibkgbalkaaa.HelpInt.iv l9_9) := (by rw [← hl9_9]; first | done | simp [Go.Proofs.Ytfjcibkgbalkaaa.HelpInt.iv, List.map_set]); rw [← hwl9_9, ← e_]; exact Sl9_9.out.1)
      have Gl9_9 : Hid (wr0.grownBy wl9_9 (Value.slice (some ⟨w_t_0.heap.size, 0, none⟩) 10 10).ownBlock) := Lib.hid (by rw [← hwl9_9]; exact Sl9_9.out.2)
      have HBwl9_9 := Lib.hid (HBwr0.out.grown Gl9_9.out HBwr0.out.size (fun q hq => (Ominutes_3l0.out.lt q hq).1))
      have hhl9_9 := Lib.hid hl9_9
      clear hl9_9 Sl9_9
      have kt_0_0__635 := cell_other kt_0_0__605 Gl9_9.out Dminutes_3l0_t_0.out
      have kt_0_1__636 := cell_other kt_0_1__606 Gl9_9.out Dminutes_3l0_t_0.out
      have kt_0_2__637 := cell_other kt_0_2__607 Gl9_9.out Dminutes_3l0_t_0.out
      have kt_0_3__638 := cell_other kt_0_3__608 Gl9_9.out Dminutes_3l0_t_0.out
      have kt_0_4__639 := cell_other kt_0_4__609 Gl9_9.out Dminutes_3l0_t_0.out
      have kt_0_5__640 := cell_other kt_0_5__610 Gl9_9.out Dminutes_3l0_t_0.out
      have kt_0_6__641 := cell_other kt_0_6__611 Gl9_9.out Dminutes_3l0_t_0.out
      have kt_0_7__642 := cell_other kt_0_7__612 Gl9_9.out Dminutes_3l0_t_0.out
      have kt_0_8__643 := cell_other kt_0_8__613 Gl9_9.out Dminutes_3l0_t_0.out
      have kt_0_9__644 := cell_other kt_0_9__614 Gl9_9.out Dminutes_3l0_t_0.out
      replace Ot_0 := Lib.hid (own_other Ot_0.out Gl9_9.out Dminutes_3l0_t_0.out)
      clear Ominutes_3l0 Gl9_9
      replace H := app_hid H
      go_wp2_with fail
      clear z0l9_9 kt_0_0__605 kt_0_1__606 kt_0_2__607 kt_0_3__608 kt_0_4__609 kt_0_5__610 kt_0_6__611 kt_0_7__612 kt_0_8__613 kt_0_9__614 ct_8_0
      go_roundg m0
      case measure => omega
      case rel => exact ⟨k0 + 1, _, by omega, by go_num, H, HBwl9_9, kt_0_0__635, kt_0_1__636, kt_0_2__637, kt_0_3__638, kt_0_4__639, kt_0_5__640, kt_0_6__641, kt_0_7__642, kt_0_8__643, kt_0_9__644, Ot_0, Pl9_9, Lib.hid (nl9_9.out), Lib.hid Dminutes_3l0_t_0.out⟩
end Go.Proofs.Ytfjcibkgbalkaaa.GiFilledWith

/- loop.example/g01062/impl.earliestMinutes as a plain function, and the contract of the program's: where the plain one has an answer, the program has it. Conditions: slices read as lists. -/
namespace Go.Proofs.Ytfjcibkgbalkaaa.GiEarliestMinutes
set_option linter.unusedVariables false
set_option linter.unusedSimpArgs false
open Go.RowKit
open Go.Proofs.Ytfjcibkgbalkaaa.Rowed Go.Proofs.Ytfjcibkgbalkaaa.Turn Go.Proofs.Ytfjcibkgbalkaaa.Aid Go.Proofs.Ytfjcibkgbalkaaa.GoP Go.Proofs.Ytfjcibkgbalkaaa.GoM

def l0 (list : (List Go.Proofs.Ytfjcibkgbalkaaa.PMail.Mail)) (k0 : Nat) (s : (List Int)) (nx0 bk0 : (List Int) → Option (Go.Proofs.Ytfjcibkgbalkaaa.PIntA10.IntA10)) : Option (Go.Proofs.Ytfjcibkgbalkaaa.PIntA10.IntA10) :=
  letK s fun earliest_7l0 =>
  Option.bind (idx list (k0 : Int)) fun (yt_12 : Go.Proofs.Ytfjcibkgbalkaaa.PMail.Mail) =>
  unMail yt_12 fun (t_12_leave : Int) (t_12_from_ : Int) (t_12_to_ : Int) (t_12_arrive : Int) =>
  Option.bind (idx earliest_7l0 t_12_from_) fun (yt_18 : Int) =>
  letK (decide (yt_18 ≤ t_12_leave)) fun (t_22 : Bool) =>
  iteK t_22
  (Option.bind (idx earliest_7l0 t_12_to_) fun (yt_27 : Int) =>
  letK (min yt_27 t_12_arrive) fun (t_31 : Int) =>
  Option.bind (idx earliest_7l0 t_12_to_) fun (yt_32 : Int) =>
  letK (earliest_7l0.set (t_12_to_).toNat t_31) fun (l33_33 : (List Int)) =>
  appK nx0 (l33_33))
  (appK nx0 (earliest_7l0))

def e0  (s : (List Int)) : Option (Go.Proofs.Ytfjcibkgbalkaaa.PIntA10.IntA10) :=
  letK s fun earliest_7l0 =>
  some (Go.Proofs.Ytfjcibkgbalkaaa.PIntA10.IntA10.mk (Go.Proofs.Ytfjcibkgbalkaaa.GoA.nth earliest_7l0 0) (Go.Proofs.Ytfjcibkgbalkaaa.GoA.nth earliest_7l0 1) (Go.Proofs.Ytfjcibkgbalkaaa.GoA.nth earliest_7l0 2) (Go.Proofs.Ytfjcibkgbalkaaa.GoA.nth earliest_7l0 3) (Go.Proofs.Ytfjcibkgbalkaaa.GoA.nth earliest_7l0 4) (Go.Proofs.Ytfjcibkgbalkaaa.GoA.nth earliest_7l0 5) (Go.Proofs.Ytfjcibkgbalkaaa.GoA.nth earliest_7l0 6) (Go.Proofs.Ytfjcibkgbalkaaa.GoA.nth earliest_7l0 7) (Go.Proofs.Ytfjcibkgbalkaaa.GoA.nth earliest_7l0 8) (Go.Proofs.Ytfjcibkgbalkaaa.GoA.nth earliest_7l0 9))

def P (list : (List Go.Proofs.Ytfjcibkgbalkaaa.PMail.Mail)) (from_1 : Int) (minute : Int) : Option (Go.Proofs.Ytfjcibkgbalkaaa.PIntA10.IntA10) :=
  Option.bind (Go.Proofs.Ytfjcibkgbalkaaa.GiFilledWith.P 10000) fun (t_1 : Go.Proofs.Ytfjcibkgbalkaaa.PIntA10.IntA10) =>
  unIntA10 t_1 fun (t_1_x0 : Int) (t_1_x1 : Int) (t_1_x2 : Int) (t_1_x3 : Int) (t_1_x4 : Int) (t_1_x5 : Int) (t_1_x6 : Int) (t_1_x7 : Int) (t_1_x8 : Int) (t_1_x9 : Int) =>
  letK ([t_1_x0, t_1_x1, t_1_x2, t_1_x3, t_1_x4, t_1_x5, t_1_x6, t_1_x7, t_1_x8, t_1_x9]) fun (vearliest_2 : (List Int)) =>
  Option.bind (idx vearliest_2 from_1) fun (yt_6 : Int) =>
  letK (vearliest_2.set (from_1).toNat minute) fun (l7_7 : (List Int)) =>
  cntK (l0 list) (list.length) 0 (l7_7) (e0 )

set_option maxRecDepth 100000 in
set_option maxHeartbeats 2000000 in
theorem C (list : (List Go.Proofs.Ytfjcibkgbalkaaa.PMail.Mail)) (from_1 : Int) (minute : Int) (A0 : Option Addr) (c0 : Nat)  (w : World) (M0 : Hid (Cells w 4 A0 list.length (Go.Proofs.Ytfjcibkgbalkaaa.PMail.flat list))) (N0 : Hid (list.length ≤ 9223372036854775807))  {r : Go.Proofs.Ytfjcibkgbalkaaa.PIntA10.IntA10} (H : Hid (P list from_1 minute = some r)) :
    Calls Try.prog 98 #[.slice A0 list.length c0, .int .i64 from_1, .int .i64 minute] w (Gives ((Go.Proofs.Ytfjcibkgbalkaaa.PIntA10.IntA10.val r)) w) := by
  have HB := Lib.hid (Below.refl w.heap.size w)
  unfold P at H
  have N0o := N0.out
  go_enter Try.func98, Try.ntmps98
  obtain ⟨w_t_0, hw_t_0⟩ : ∃ x, w.alloc (.cells #[.int .i64 0, .int .i64 0, .int .i64 0, .int .i64 0, .int .i64 0, .int .i64 0, .int .i64 0, .int .i64 0, .int .i64 0, .int .i64 0] 92) = x := ⟨_, rfl⟩
  have bw_t_0 : Below w.heap.size w w_t_0 := by rw [← hw_t_0]; exact (Below.refl _ _).alloc (Nat.le_refl _) _
  have HBw_t_0 := Lib.hid (Below.step HB.out bw_t_0)
  clear bw_t_0
  have kt_0_0 : w_t_0.cell? ⟨w.heap.size, 0, none⟩ = some (.int .i64 0) := by rw [← hw_t_0]; exact box_new _ _ _ 0 _ rfl
  have kt_0_1 : w_t_0.cell? ⟨w.heap.size, 1, none⟩ = some (.int .i64 0) := by rw [← hw_t_0]; exact box_new _ _ _ 1 _ rfl
  have kt_0_2 : w_t_0.cell? ⟨w.heap.size, 2, none⟩ = some (.int .i64 0) := by rw [← hw_t_0]; exact box_new _ _ _ 2 _ rfl
  have kt_0_3 : w_t_0.cell? ⟨w.heap.size, 3, none⟩ = some (.int .i64 0) := by rw [← hw_t_0]; exact box_new _ _ _ 3 _ rfl
  have kt_0_4 : w_t_0.cell? ⟨w.heap.size, 4, none⟩ = some (.int .i64 0) := by rw [← hw_t_0]; exact box_new _ _ _ 4 _ rfl
  have kt_0_5 : w_t_0.cell? ⟨w.heap.size, 5, none⟩ = some (.int .i64 0) := by rw [← hw_t_0]; exact box_new _ _ _ 5 _ rfl
  have kt_0_6 : w_t_0.cell? ⟨w.heap.size, 6, none⟩ = some (.int .i64 0) := by rw [← hw_t_0]; exact box_new _ _ _ 6 _ rfl
  have kt_0_7 : w_t_0.cell? ⟨w.heap.size, 7, none⟩ = some (.int .i64 0) := by rw [← hw_t_0]; exact box_new _ _ _ 7 _ rfl
  have kt_0_8 : w_t_0.cell? ⟨w.heap.size, 8, none⟩ = some (.int .i64 0) := by rw [← hw_t_0]; exact box_new _ _ _ 8 _ rfl
  have kt_0_9 : w_t_0.cell? ⟨w.heap.size, 9, none⟩ = some (.int .i64 0) := by rw [← hw_t_0]; exact box_new _ _ _ 9 _ rfl
  have Ot_0 : Hid (w_t_0.ownsRow w.heap.size 92 10 (.slice (some ⟨w.heap.size, 0, none⟩) 1 1) 1 [.int .i64 0, .int .i64 0, .int .i64 0, .int .i64 0, .int .i64 0, .int .i64 0, .int .i64 0, .int .i64 0, .int .i64 0, .int .i64 0]) := Lib.hid (by rw [← hw_t_0]; exact own_laid (n := 1) HB.out.size rfl rfl (by unfold maxLen; omega))
  replace H := bind_hid H
  obtain ⟨t_1, qt_1, H⟩ := H
  obtain ⟨t_1_x0, t_1_x1, t_1_x2, t_1_x3, t_1_x4, t_1_x5, t_1_x6, t_1_x7, t_1_x8, t_1_x9⟩ := t_1
  replace H := unIntA10_hid H
  go_wp2_with fail
  go_at_call 115
  refine (Go.Proofs.Ytfjcibkgbalkaaa.GiFilledWith.C (10000)  _    qt_1).mono ?_
  rintro e_t_1 wt_1 ⟨rfl, bt_1⟩
  unfold Go.Proofs.Ytfjcibkgbalkaaa.PIntA10.IntA10.val
  have HBwt_1 := Lib.hid (Below.step HBw_t_0.out bt_1)
  replace kt_0_0 := cell_below bt_1 kt_0_0
  replace kt_0_1 := cell_below bt_1 kt_0_1
  replace kt_0_2 := cell_below bt_1 kt_0_2
  replace kt_0_3 := cell_below bt_1 kt_0_3
  replace kt_0_4 := cell_below bt_1 kt_0_4
  replace kt_0_5 := cell_below bt_1 kt_0_5
  replace kt_0_6 := cell_below bt_1 kt_0_6
  replace kt_0_7 := cell_below bt_1 kt_0_7
  replace kt_0_8 := cell_below bt_1 kt_0_8
  replace kt_0_9 := cell_below bt_1 kt_0_9
  replace Ot_0 := Lib.hid (own_below Ot_0.out bt_1)
  clear bt_1
  replace H := let_hid H
  obtain ⟨vearliest_2, hvearliest_2, H⟩ := H
  obtain ⟨w_earliest_2, hw_earliest_2⟩ : ∃ x, wt_1.alloc (.cells #[.int .i64 t_1_x0, .int .i64 t_1_x1, .int .i64 t_1_x2, .int .i64 t_1_x3, .int .i64 t_1_x4, .int .i64 t_1_x5, .int .i64 t_1_x6, .int .i64 t_1_x7, .int .i64 t_1_x8, .int .i64 t_1_x9] 92) = x := ⟨_, rfl⟩
  have bw_earliest_2 : Below wt_1.heap.size wt_1 w_earliest_2 := by rw [← hw_earliest_2]; exact (Below.refl _ _).alloc (Nat.le_refl _) _
  have hs_earliest_2 := HBwt_1.out.size
  have nearliest_2 : vearliest_2.length = 10 := by rw [← hvearliest_2]; rfl
  have Oearliest_2 : Hid (w_earliest_2.ownsRow w.heap.size 92 1 (.slice (some ⟨wt_1.heap.size, 0, none⟩) 10 10) 10 (Go.Proofs.Ytfjcibkgbalkaaa.HelpInt.iv vearliest_2)) := by
    rw [← hw_earliest_2, ← hvearliest_2]
    have e_ : ([.int .i64 t_1_x0, .int .i64 t_1_x1, .int .i64 t_1_x2, .int .i64 t_1_x3, .int .i64 t_1_x4, .int .i64 t_1_x5, .int .i64 t_1_x6, .int .i64 t_1_x7, .int .i64 t_1_x8, .int .i64 t_1_x9] : List Value) = Go.Proofs.Ytfjcibkgbalkaaa.HelpInt.iv [t_1_x0, t_1_x1, t_1_x2, t_1_x3, t_1_x4, t_1_x5, t_1_x6, t_1_x7, t_1_x8, t_1_x9] := rfl
    exact Lib.hid (own_laid (n := 10) hs_earliest_2 e_ rfl (by unfold maxLen; omega))
  clear hs_earliest_2
  have hhearliest_2 := Lib.hid hvearliest_2
  clear hvearliest_2
  replace nearliest_2 := Lib.hid nearliest_2
  have Dearliest_2_t_0 := Lib.hid (apart_box kt_0_0)
  have HBw_earliest_2 := Lib.hid (Below.step HBwt_1.out bw_earliest_2)
  have kt_0_0__645 := cell_below bw_earliest_2 kt_0_0
  have kt_0_1__646 := cell_below bw_earliest_2 kt_0_1
  have kt_0_2__647 := cell_below bw_earliest_2 kt_0_2
  have kt_0_3__648 := cell_below bw_earliest_2 kt_0_3
  have kt_0_4__649 := cell_below bw_earliest_2 kt_0_4
  have kt_0_5__650 := cell_below bw_earliest_2 kt_0_5
  have kt_0_6__651 := cell_below bw_earliest_2 kt_0_6
  have kt_0_7__652 := cell_below bw_earliest_2 kt_0_7
  have kt_0_8__653 := cell_below bw_earliest_2 kt_0_8
  have kt_0_9__654 := cell_below bw_earliest_2 kt_0_9
  replace Ot_0 := Lib.hid (own_below Ot_0.out bw_earliest_2)
  clear bw_earliest_2
  replace H := idx_hid H
  obtain ⟨nt_6, yt_6, et_6, lt_6, gt_6, H⟩ := H
  subst et_6
  have hqt_6 := nearliest_2.out
  obtain ⟨ab_t_6, ao_t_6, zt_6, At_6, z_t_6, ct_6_0⟩ := Go.Proofs.Ytfjcibkgbalkaaa.HelpInt.Ints.at_ (own_cells Oearliest_2.out) (k := nt_6) (by omega)
  obtain rfl := Option.some.inj (gt_6.out.symm.trans z_t_6)
  simp only [Option.some.injEq, Addr.mk.injEq] at At_6
  obtain ⟨rfl, rfl, _⟩ := At_6
  clear z_t_6
  simp only [Nat.zero_add] at ct_6_0
  have b0t_6 : (0 : Int) ≤ (nt_6 : Int) := by omega
  have b1t_6 : (nt_6 : Int) < ((10 : Nat) : Int) := by omega
  have b2t_6 : ((nt_6 : Int)).toNat = nt_6 := by omega
  clear hqt_6
  have b3t_6 : nt_6 < 10 := by have h_ := lt_6; have hn_ := nearliest_2.out; omega
  have b4t_6 : (nt_6 : Int) < (10 : Int) := by omega
  replace H := let_hid H
  obtain ⟨l7_7, hl7_7, H⟩ := H
  try simp only [Int.toNat_natCast] at hl7_7
  obtain ⟨wl7_7, hwl7_7⟩ : ∃ x, (w_earliest_2).setCell ⟨wt_1.heap.size, nt_6, none⟩ (.int .i64 minute) = x := ⟨_, rfl⟩
  have z0l7_7 := Oearliest_2.out.frozenAt (nt_6)
  have Sl7_7 := Lib.hid (own_stores [(nt_6, .int .i64 minute)] Oearliest_2.out)
  have nl7_7 : Hid (l7_7.length = 10) := Lib.hid (by rw [← hl7_7, List.length_set]; exact nearliest_2.out)
  have Pl7_7 : Hid (wl7_7.ownsRow w.heap.size 92 1 (.slice (some ⟨wt_1.heap.size, 0, none⟩) 10 10) 10 (Go.Proofs.Ytfjcibkgbalkaaa.HelpInt.iv l7_7)) := Lib.hid (by have e_ : ([(nt_6, .int .i64 minute)] : List (Nat × Value)).foldl (fun xs p => xs.set p.1 p.2) (Go.Proofs.Ytfjcibkgbalkaaa.HelpInt.iv vearliest_2) = (Go.Proofs.Ytfjcibkgbalkaaa.HelpInt.iv l7_7) := (by rw [← hl7_7]; first | done | simp [Go.Proofs.Ytfjcibkgbalkaaa.HelpInt.iv, List.map_set]); rw [← hwl7_7, ← e_]; exact Sl7_7.out.1)
  have Gl7_7 : Hid (w_earliest_2.grownBy wl7_7 (Value.slice (some ⟨wt_1.heap.size, 0, none⟩) 10 10).ownBlock) := Lib.hid (by rw [← hwl7_7]; exact Sl7_7.out.2)
  have HBwl7_7 := Lib.hid (HBw_earliest_2.out.grown Gl7_7.out HBw_earliest_2.out.size (fun q hq => (Oearliest_2.out.lt q hq).1))
  have hhl7_7 := Lib.hid hl7_7
  clear hl7_7 Sl7_7
  have kt_0_0__655 := cell_other kt_0_0__645 Gl7_7.out Dearliest_2_t_0.out
  have kt_0_1__656 := cell_other kt_0_1__646 Gl7_7.out Dearliest_2_t_0.out
  have kt_0_2__657 := cell_other kt_0_2__647 Gl7_7.out Dearliest_2_t_0.out
  have kt_0_3__658 := cell_other kt_0_3__648 Gl7_7.out Dearliest_2_t_0.out
  have kt_0_4__659 := cell_other kt_0_4__649 Gl7_7.out Dearliest_2_t_0.out
  have kt_0_5__660 := cell_other kt_0_5__650 Gl7_7.out Dearliest_2_t_0.out
  have kt_0_6__661 := cell_other kt_0_6__651 Gl7_7.out Dearliest_2_t_0.out
  have kt_0_7__662 := cell_other kt_0_7__652 Gl7_7.out Dearliest_2_t_0.out
  have kt_0_8__663 := cell_other kt_0_8__653 Gl7_7.out Dearliest_2_t_0.out
  have kt_0_9__664 := cell_other kt_0_9__654 Gl7_7.out Dearliest_2_t_0.out
  replace Ot_0 := Lib.hid (own_other Ot_0.out Gl7_7.out Dearliest_2_t_0.out)
  clear Oearliest_2 Gl7_7
  go_wp2_with fail
  clear kt_0_0 kt_0_1 kt_0_2 kt_0_3 kt_0_4 kt_0_5 kt_0_6 kt_0_7 kt_0_8 kt_0_9 z0l7_7 kt_0_0__645 kt_0_1__646 kt_0_2__647 kt_0_3__648 kt_0_4__649 kt_0_5__650 kt_0_6__651 kt_0_7__652 kt_0_8__653 kt_0_9__654 ct_6_0
  go_wp2_with fail
  go_loopg [16] (list.length) (fun m_ v16_ wr => ∃ (k0 : Nat) (earliest_7l0 : (List Int)), k0 + m_ = list.length ∧ v16_ = .int .i64 (k0 : Int) ∧ Hid (cntK (l0 list) m_ k0 (earliest_7l0) (e0 ) = some r) ∧ Hid (Below w.heap.size w wr) ∧ wr.cell? ⟨w.heap.size, 0, none⟩ = some (.int .i64 0) ∧ wr.cell? ⟨w.heap.size, 1, none⟩ = some (.int .i64 0) ∧ wr.cell? ⟨w.heap.size, 2, none⟩ = some (.int .i64 0) ∧ wr.cell? ⟨w.heap.size, 3, none⟩ = some (.int .i64 0) ∧ wr.cell? ⟨w.heap.size, 4, none⟩ = some (.int .i64 0) ∧ wr.cell? ⟨w.heap.size, 5, none⟩ = some (.int .i64 0) ∧ wr.cell? ⟨w.heap.size, 6, none⟩ = some (.int .i64 0) ∧ wr.cell? ⟨w.heap.size, 7, none⟩ = some (.int .i64 0) ∧ wr.cell? ⟨w.heap.size, 8, none⟩ = some (.int .i64 0) ∧ wr.cell? ⟨w.heap.size, 9, none⟩ = some (.int .i64 0) ∧ Hid (wr.ownsRow w.heap.size 92 10 (.slice (some ⟨w.heap.size, 0, none⟩) 1 1) 1 [.int .i64 0, .int .i64 0, .int .i64 0, .int .i64 0, .int .i64 0, .int .i64 0, .int .i64 0, .int .i64 0, .int .i64 0, .int .i64 0]) ∧ Hid (wr.ownsRow w.heap.size 92 1 (.slice (some ⟨wt_1.heap.size, 0, none⟩) 10 10) 10 (Go.Proofs.Ytfjcibkgbalkaaa.HelpInt.iv earliest_7l0)) ∧ Hid (earliest_7l0.length = 10) ∧ Hid (Apart (some ⟨wt_1.heap.size, 0, none⟩) (some ⟨w.heap.size, 0, none⟩)))
  case atStart => exact ⟨0, _, by omega, rfl, H, HBwl7_7, kt_0_0__655, kt_0_1__656, kt_0_2__657, kt_0_3__658, kt_0_4__659, kt_0_5__660, kt_0_6__661, kt_0_7__662, kt_0_8__663, kt_0_9__664, Ot_0, Pl7_7, Lib.hid (nl7_7.out), Lib.hid Dearliest_2_t_0.out⟩
  case round =>
    obtain ⟨k0, earliest_7l0, hkm0, rfl, H, HBwr0, kt_0_0__655, kt_0_1__656, kt_0_2__657, kt_0_3__658, kt_0_4__659, kt_0_5__660, kt_0_6__661, kt_0_7__662, kt_0_8__663, kt_0_9__664, Ot_0, Oearliest_7l0, hnearliest_7l0, Dearliest_7l0_t_0⟩ := hrel
    rename World => wr0
    cases gk with
    | zero =>
      obtain rfl : k0 = list.length := by omega
      have hc0 : decide (((list.length : Nat) : Int) < ((list.length : Nat) : Int)) = false := by simp
      replace H := cnt_zero H
      unfold e0 at H
      replace H := let_hid H
      obtain ⟨_, rfl, H⟩ := H
      have ka_665 : wr0.cell? ⟨wt_1.heap.size, 0, none⟩ = some (.int .i64 (Go.Proofs.Ytfjcibkgbalkaaa.GoA.nth earliest_7l0 0)) := Go.Proofs.Ytfjcibkgbalkaaa.GoA.row_at Oearliest_7l0.out hnearliest_7l0.out 0 (by omega)
      have ka_666 : wr0.cell? ⟨wt_1.heap.size, 1, none⟩ = some (.int .i64 (Go.Proofs.Ytfjcibkgbalkaaa.GoA.nth earliest_7l0 1)) := Go.Proofs.Ytfjcibkgbalkaaa.GoA.row_at Oearliest_7l0.out hnearliest_7l0.out 1 (by omega)
      have ka_667 : wr0.cell? ⟨wt_1.heap.size, 2, none⟩ = some (.int .i64 (Go.Proofs.Ytfjcibkgbalkaaa.GoA.nth earliest_7l0 2)) := Go.Proofs.Ytfjcibkgbalkaaa.GoA.row_at Oearliest_7l0.out hnearliest_7l0.out 2 (by omega)
      have ka_668 : wr0.cell? ⟨wt_1.heap.size, 3, none⟩ = some (.int .i64 (Go.Proofs.Ytfjcibkgbalkaaa.GoA.nth earliest_7l0 3)) := Go.Proofs.Ytfjcibkgbalkaaa.GoA.row_at Oearliest_7l0.out hnearliest_7l0.out 3 (by omega)
      have ka_669 : wr0.cell? ⟨wt_1.heap.size, 4, none⟩ = some (.int .i64 (Go.Proofs.Ytfjcibkgbalkaaa.GoA.nth earliest_7l0 4)) := Go.Proofs.Ytfjcibkgbalkaaa.GoA.row_at Oearliest_7l0.out hnearliest_7l0.out 4 (by omega)
      have ka_670 : wr0.cell? ⟨wt_1.heap.size, 5, none⟩ = some (.int .i64 (Go.Proofs.Ytfjcibkgbalkaaa.GoA.nth earliest_7l0 5)) := Go.Proofs.Ytfjcibkgbalkaaa.GoA.row_at Oearliest_7l0.out hnearliest_7l0.out 5 (by omega)
      have ka_671 : wr0.cell? ⟨wt_1.heap.size, 6, none⟩ = some (.int .i64 (Go.Proofs.Ytfjcibkgbalkaaa.GoA.nth earliest_7l0 6)) := Go.Proofs.Ytfjcibkgbalkaaa.GoA.row_at Oearliest_7l0.out hnearliest_7l0.out 6 (by omega)
      have ka_672 : wr0.cell? ⟨wt_1.heap.size, 7, none⟩ = some (.int .i64 (Go.Proofs.Ytfjcibkgbalkaaa.GoA.nth earliest_7l0 7)) := Go.Proofs.Ytfjcibkgbalkaaa.GoA.row_at Oearliest_7l0.out hnearliest_7l0.out 7 (by omega)
      have ka_673 : wr0.cell? ⟨wt_1.heap.size, 8, none⟩ = some (.int .i64 (Go.Proofs.Ytfjcibkgbalkaaa.GoA.nth earliest_7l0 8)) := Go.Proofs.Ytfjcibkgbalkaaa.GoA.row_at Oearliest_7l0.out hnearliest_7l0.out 8 (by omega)
      have ka_674 : wr0.cell? ⟨wt_1.heap.size, 9, none⟩ = some (.int .i64 (Go.Proofs.Ytfjcibkgbalkaaa.GoA.nth earliest_7l0 9)) := Go.Proofs.Ytfjcibkgbalkaaa.GoA.row_at Oearliest_7l0.out hnearliest_7l0.out 9 (by omega)
      obtain ⟨wb37_37, hwb37_37⟩ : ∃ x, ((((((((((wr0).setCell ⟨w.heap.size, 0, none⟩ (.int .i64 (Go.Proofs.Ytfjcibkgbalkaaa.GoA.nth earliest_7l0 0))).setCell ⟨w.heap.size, 1, none⟩ (.int .i64 (Go.Proofs.Ytfjcibkgbalkaaa.GoA.nth earliest_7l0 1))).setCell ⟨w.heap.size, 2, none⟩ (.int .i64 (Go.Proofs.Ytfjcibkgbalkaaa.GoA.nth earliest_7l0 2))).setCell ⟨w.heap.size, 3, none⟩ (.int .i64 (Go.Proofs.Ytfjcibkgbalkaaa.GoA.nth earliest_7l0 3))).setCell ⟨w.heap.size, 4, none⟩ (.int .i64 (Go.Proofs.Ytfjcibkgbalkaaa.GoA.nth earliest_7l0 4))).setCell ⟨w.heap.size, 5, none⟩ (.int .i64 (Go.Proofs.Ytfjcibkgbalkaaa.GoA.nth earliest_7l0 5))).setCell ⟨w.heap.size, 6, none⟩ (.int .i64 (Go.Proofs.Ytfjcibkgbalkaaa.GoA.nth earliest_7l0 6))).setCell ⟨w.heap.size, 7, none⟩ (.int .i64 (Go.Proofs.Ytfjcibkgbalkaaa.GoA.nth earliest_7l0 7))).setCell ⟨w.heap.size, 8, none⟩ (.int .i64 (Go.Proofs.Ytfjcibkgbalkaaa.GoA.nth earliest_7l0 8))).setCell ⟨w.heap.size, 9, none⟩ (.int .i64 (Go.Proofs.Ytfjcibkgbalkaaa.GoA.nth earliest_7l0 9)) = x := ⟨_, rfl⟩
      have z0b37_37 := Ot_0.out.frozenAt 0
      have z1b37_37 := Ot_0.out.frozenAt 1
      have z2b37_37 := Ot_0.out.frozenAt 2
      have z3b37_37 := Ot_0.out.frozenAt 3
      have z4b37_37 := Ot_0.out.frozenAt 4
      have z5b37_37 := Ot_0.out.frozenAt 5
      have z6b37_37 := Ot_0.out.frozenAt 6
      have z7b37_37 := Ot_0.out.frozenAt 7
      have z8b37_37 := Ot_0.out.frozenAt 8
      have z9b37_37 := Ot_0.out.frozenAt 9
      have Sb37_37 := Lib.hid (own_stores [(0, .int .i64 (Go.Proofs.Ytfjcibkgbalkaaa.GoA.nth earliest_7l0 0)), (1, .int .i64 (Go.Proofs.Ytfjcibkgbalkaaa.GoA.nth earliest_7l0 1)), (2, .int .i64 (Go.Proofs.Ytfjcibkgbalkaaa.GoA.nth earliest_7l0 2)), (3, .int .i64 (Go.Proofs.Ytfjcibkgbalkaaa.GoA.nth earliest_7l0 3)), (4, .int .i64 (Go.Proofs.Ytfjcibkgbalkaaa.GoA.nth earliest_7l0 4)), (5, .int .i64 (Go.Proofs.Ytfjcibkgbalkaaa.GoA.nth earliest_7l0 5)), (6, .int .i64 (Go.Proofs.Ytfjcibkgbalkaaa.GoA.nth earliest_7l0 6)), (7, .int .i64 (Go.Proofs.Ytfjcibkgbalkaaa.GoA.nth earliest_7l0 7)), (8, .int .i64 (Go.Proofs.Ytfjcibkgbalkaaa.GoA.nth earliest_7l0 8)), (9, .int .i64 (Go.Proofs.Ytfjcibkgbalkaaa.GoA.nth earliest_7l0 9))] Ot_0.out)
      have Pb37_37 : Hid (wb37_37.ownsRow w.heap.size 92 10 (.slice (some ⟨w.heap.size, 0, none⟩) 1 1) 1 [.int .i64 (Go.Proofs.Ytfjcibkgbalkaaa.GoA.nth earliest_7l0 0), .int .i64 (Go.Proofs.Ytfjcibkgbalkaaa.GoA.nth earliest_7l0 1), .int .i64 (Go.Proofs.Ytfjcibkgbalkaaa.GoA.nth earliest_7l0 2), .int .i64 (Go.Proofs.Ytfjcibkgbalkaaa.GoA.nth earliest_7l0 3), .int .i64 (Go.Proofs.Ytfjcibkgbalkaaa.GoA.nth earliest_7l0 4), .int .i64 (Go.Proofs.Ytfjcibkgbalkaaa.GoA.nth earliest_7l0 5), .int .i64 (Go.Proofs.Ytfjcibkgbalkaaa.GoA.nth earliest_7l0 6), .int .i64 (Go.Proofs.Ytfjcibkgbalkaaa.GoA.nth earliest_7l0 7), .int .i64 (Go.Proofs.Ytfjcibkgbalkaaa.GoA.nth earliest_7l0 8), .int .i64 (Go.Proofs.Ytfjcibkgbalkaaa.GoA.nth earliest_7l0 9)]) := Lib.hid (by rw [← hwb37_37]; exact Sb37_37.out.1)
      have Gb37_37 : Hid (wr0.grownBy wb37_37 (Value.slice (some ⟨w.heap.size, 0, none⟩) 1 1).ownBlock) := Lib.hid (by rw [← hwb37_37]; exact Sb37_37.out.2)
      have HBwb37_37 := Lib.hid (HBwr0.out.grown Gb37_37.out HBwr0.out.size (fun q hq => (Ot_0.out.lt q hq).1))
      clear Sb37_37
      replace Oearliest_7l0 := Lib.hid (own_other Oearliest_7l0.out Gb37_37.out (Apart.symm Dearliest_7l0_t_0.out))
      clear Ot_0 Gb37_37
      have kt_0_0__675 : wb37_37.cell? ⟨w.heap.size, 0, none⟩ = some (.int .i64 (Go.Proofs.Ytfjcibkgbalkaaa.GoA.nth earliest_7l0 0)) := Pb37_37.out.cells rfl 0 _ rfl
      have kt_0_1__676 : wb37_37.cell? ⟨w.heap.size, 1, none⟩ = some (.int .i64 (Go.Proofs.Ytfjcibkgbalkaaa.GoA.nth earliest_7l0 1)) := Pb37_37.out.cells rfl 1 _ rfl
      have kt_0_2__677 : wb37_37.cell? ⟨w.heap.size, 2, none⟩ = some (.int .i64 (Go.Proofs.Ytfjcibkgbalkaaa.GoA.nth earliest_7l0 2)) := Pb37_37.out.cells rfl 2 _ rfl
      have kt_0_3__678 : wb37_37.cell? ⟨w.heap.size, 3, none⟩ = some (.int .i64 (Go.Proofs.Ytfjcibkgbalkaaa.GoA.nth earliest_7l0 3)) := Pb37_37.out.cells rfl 3 _ rfl
      have kt_0_4__679 : wb37_37.cell? ⟨w.heap.size, 4, none⟩ = some (.int .i64 (Go.Proofs.Ytfjcibkgbalkaaa.GoA.nth earliest_7l0 4)) := Pb37_37.out.cells rfl 4 _ rfl
      have kt_0_5__680 : wb37_37.cell? ⟨w.heap.size, 5, none⟩ = some (.int .i64 (Go.Proofs.Ytfjcibkgbalkaaa.GoA.nth earliest_7l0 5)) := Pb37_37.out.cells rfl 5 _ rfl
      have kt_0_6__681 : wb37_37.cell? ⟨w.heap.size, 6, none⟩ = some (.int .i64 (Go.Proofs.Ytfjcibkgbalkaaa.GoA.nth earliest_7l0 6)) := Pb37_37.out.cells rfl 6 _ rfl
      have kt_0_7__682 : wb37_37.cell? ⟨w.heap.size, 7, none⟩ = some (.int .i64 (Go.Proofs.Ytfjcibkgbalkaaa.GoA.nth earliest_7l0 7)) := Pb37_37.out.cells rfl 7 _ rfl
      have kt_0_8__683 : wb37_37.cell? ⟨w.heap.size, 8, none⟩ = some (.int .i64 (Go.Proofs.Ytfjcibkgbalkaaa.GoA.nth earliest_7l0 8)) := Pb37_37.out.cells rfl 8 _ rfl
      have kt_0_9__684 : wb37_37.cell? ⟨w.heap.size, 9, none⟩ = some (.int .i64 (Go.Proofs.Ytfjcibkgbalkaaa.GoA.nth earliest_7l0 9)) := Pb37_37.out.cells rfl 9 _ rfl
      cases ret_hid H
      go_wp2_with fail
      (try simp only [Exit.inBlock, Exit.then])
      refine bodyPost_ret (v := .agg #[.int .i64 (Go.Proofs.Ytfjcibkgbalkaaa.GoA.nth earliest_7l0 0), .int .i64 (Go.Proofs.Ytfjcibkgbalkaaa.GoA.nth earliest_7l0 1), .int .i64 (Go.Proofs.Ytfjcibkgbalkaaa.GoA.nth earliest_7l0 2), .int .i64 (Go.Proofs.Ytfjcibkgbalkaaa.GoA.nth earliest_7l0 3), .int .i64 (Go.Proofs.Ytfjcibkgbalkaaa.GoA.nth earliest_7l0 4), .int .i64 (Go.Proofs.Ytfjcibkgbalkaaa.GoA.nth earliest_7l0 5), .int .i64 (Go.Proofs.Ytfjcibkgbalkaaa.GoA.nth earliest_7l0 6), .int .i64 (Go.Proofs.Ytfjcibkgbalkaaa.GoA.nth earliest_7l0 7), .int .i64 (Go.Proofs.Ytfjcibkgbalkaaa.GoA.nth earliest_7l0 8), .int .i64 (Go.Proofs.Ytfjcibkgbalkaaa.GoA.nth earliest_7l0 9)]) ?hr_ ?hd_ ?_
      case hd_ => rfl
      case hr_ => simp [results, Try.results98, kt_0_0__675, kt_0_1__676, kt_0_2__677, kt_0_3__678, kt_0_4__679, kt_0_5__680, kt_0_6__681, kt_0_7__682, kt_0_8__683, kt_0_9__684, go_sem]
      exact ⟨rfl, HBwb37_37.out⟩
    | succ m0 =>
      have hlt0 : k0 < list.length := by omega
      have hc0 : decide ((k0 : Int) < ((list.length : Nat) : Int)) = true := by simp; omega
      replace H := cnt_succ H
      unfold l0 at H
      replace H := let_hid H
      obtain ⟨_, rfl, H⟩ := H
      replace H := idx_hid H
      obtain ⟨nt_12, yt_12, et_12, lt_12, gt_12, H⟩ := H
      obtain rfl : k0 = nt_12 := by omega
      clear et_12
      obtain ⟨t_12_leave, t_12_from_, t_12_to_, t_12_arrive⟩ := yt_12
      replace H := unMail_hid H
      obtain ⟨ab_t_12, ao_t_12, zt_12, At_12, z_t_12, ct_12_0, ct_12_1, ct_12_2, ct_12_3⟩ := Go.Proofs.Ytfjcibkgbalkaaa.OMail.at_ M0.out lt_12
      obtain rfl := Option.some.inj (gt_12.out.symm.trans z_t_12)
      subst At_12
      have ltt_12 := cell_lt ct_12_0
      replace ct_12_0 := cell_below HBwr0.out ct_12_0
      replace ct_12_1 := cell_below HBwr0.out ct_12_1
      replace ct_12_2 := cell_below HBwr0.out ct_12_2
      replace ct_12_3 := cell_below HBwr0.out ct_12_3
      clear z_t_12
      have b0t_12 : (0 : Int) ≤ (k0 : Int) := by omega
      have b1t_12 : (k0 : Int) < ((list.length : Nat) : Int) := by omega
      have b2t_12 : ((k0 : Int)).toNat = k0 := by omega
      obtain ⟨w_x_14, hw_x_14⟩ : ∃ x, wr0.alloc (.cells #[.int .i64 t_12_leave, .int .i64 t_12_from_, .int .i64 t_12_to_, .int .i64 t_12_arrive] 95) = x := ⟨_, rfl⟩
      have bw_x_14 : Below wr0.heap.size wr0 w_x_14 := by rw [← hw_x_14]; exact (Below.refl _ _).alloc (Nat.le_refl _) _
      have Dx_14_earliest_7l0 := Lib.hid (apart_fresh Oearliest_7l0.out)
      have Dx_14_t_0 := Lib.hid (apart_box kt_0_0__655)
      have HBw_x_14 := Lib.hid (Below.step HBwr0.out bw_x_14)
      have kt_0_0__685 := cell_below bw_x_14 kt_0_0__655
      have kt_0_1__686 := cell_below bw_x_14 kt_0_1__656
      have kt_0_2__687 := cell_below bw_x_14 kt_0_2__657
      have kt_0_3__688 := cell_below bw_x_14 kt_0_3__658
      have kt_0_4__689 := cell_below bw_x_14 kt_0_4__659
      have kt_0_5__690 := cell_below bw_x_14 kt_0_5__660
      have kt_0_6__691 := cell_below bw_x_14 kt_0_6__661
      have kt_0_7__692 := cell_below bw_x_14 kt_0_7__662
      have kt_0_8__693 := cell_below bw_x_14 kt_0_8__663
      have kt_0_9__694 := cell_below bw_x_14 kt_0_9__664
      have ct_12_0__695 := cell_below bw_x_14 ct_12_0
      have ct_12_1__696 := cell_below bw_x_14 ct_12_1
      have ct_12_2__697 := cell_below bw_x_14 ct_12_2
      have ct_12_3__698 := cell_below bw_x_14 ct_12_3
      replace Oearliest_7l0 := Lib.hid (own_below Oearliest_7l0.out bw_x_14)
      replace Ot_0 := Lib.hid (own_below Ot_0.out bw_x_14)
      clear bw_x_14
      have kx_14_0 : w_x_14.cell? ⟨wr0.heap.size, 0, none⟩ = some (.int .i64 t_12_leave) := by rw [← hw_x_14]; exact box_new _ _ _ 0 _ rfl
      have kx_14_1 : w_x_14.cell? ⟨wr0.heap.size, 1, none⟩ = some (.int .i64 t_12_from_) := by rw [← hw_x_14]; exact box_new _ _ _ 1 _ rfl
      have kx_14_2 : w_x_14.cell? ⟨wr0.heap.size, 2, none⟩ = some (.int .i64 t_12_to_) := by rw [← hw_x_14]; exact box_new _ _ _ 2 _ rfl
      have kx_14_3 : w_x_14.cell? ⟨wr0.heap.size, 3, none⟩ = some (.int .i64 t_12_arrive) := by rw [← hw_x_14]; exact box_new _ _ _ 3 _ rfl
      go_wp2_with fail
      clear kt_0_0__655 kt_0_1__656 kt_0_2__657 kt_0_3__658 kt_0_4__659 kt_0_5__660 kt_0_6__661 kt_0_7__662 kt_0_8__663 kt_0_9__664 ct_12_0 ct_12_1 ct_12_2 ct_12_3
      have Hkt_0_0__685 := Lib.hid kt_0_0__685
      replace kt_0_0__685 := cell_regrown kt_0_0__685
      have Hkt_0_1__686 := Lib.hid kt_0_1__686
      replace kt_0_1__686 := cell_regrown kt_0_1__686
      have Hkt_0_2__687 := Lib.hid kt_0_2__687
      replace kt_0_2__687 := cell_regrown kt_0_2__687
      have Hkt_0_3__688 := Lib.hid kt_0_3__688
      replace kt_0_3__688 := cell_regrown kt_0_3__688
      have Hkt_0_4__689 := Lib.hid kt_0_4__689
      replace kt_0_4__689 := cell_regrown kt_0_4__689
      have Hkt_0_5__690 := Lib.hid kt_0_5__690
      replace kt_0_5__690 := cell_regrown kt_0_5__690
      have Hkt_0_6__691 := Lib.hid kt_0_6__691
      replace kt_0_6__691 := cell_regrown kt_0_6__691
      have Hkt_0_7__692 := Lib.hid kt_0_7__692
      replace kt_0_7__692 := cell_regrown kt_0_7__692
      have Hkt_0_8__693 := Lib.hid kt_0_8__693
      replace kt_0_8__693 := cell_regrown kt_0_8__693
      have Hkt_0_9__694 := Lib.hid kt_0_9__694
      replace kt_0_9__694 := cell_regrown kt_0_9__694
      have Hct_12_0__695 := Lib.hid ct_12_0__695
      replace ct_12_0__695 := cell_regrown ct_12_0__695
      have Hct_12_1__696 := Lib.hid ct_12_1__696
      replace ct_12_1__696 := cell_regrown ct_12_1__696
      have Hct_12_2__697 := Lib.hid ct_12_2__697
      replace ct_12_2__697 := cell_regrown ct_12_2__697
      have Hct_12_3__698 := Lib.hid ct_12_3__698
      replace ct_12_3__698 := cell_regrown ct_12_3__698
      have Hkx_14_0 := Lib.hid kx_14_0
      replace kx_14_0 := cell_regrown kx_14_0
      have Hkx_14_1 := Lib.hid kx_14_1
      replace kx_14_1 := cell_regrown kx_14_1
      have Hkx_14_2 := Lib.hid kx_14_2
      replace kx_14_2 := cell_regrown kx_14_2
      have Hkx_14_3 := Lib.hid kx_14_3
      replace kx_14_3 := cell_regrown kx_14_3
      replace H := idx_hid H
      obtain ⟨nt_18, yt_18, et_18, lt_18, gt_18, H⟩ := H
      subst et_18
      have hqt_18 := hnearliest_7l0.out
      obtain ⟨ab_t_18, ao_t_18, zt_18, At_18, z_t_18, ct_18_0⟩ := Go.Proofs.Ytfjcibkgbalkaaa.HelpInt.Ints.at_ (own_cells Oearliest_7l0.out) (k := nt_18) (by omega)
      obtain rfl := Option.some.inj (gt_18.out.symm.trans z_t_18)
      simp only [Option.some.injEq, Addr.mk.injEq] at At_18
      obtain ⟨rfl, rfl, _⟩ := At_18
      clear z_t_18
      simp only [Nat.zero_add] at ct_18_0
      have b0t_18 : (0 : Int) ≤ (nt_18 : Int) := by omega
      have b1t_18 : (nt_18 : Int) < ((10 : Nat) : Int) := by omega
      have b2t_18 : ((nt_18 : Int)).toNat = nt_18 := by omega
      clear hqt_18
      have Hct_18_0 := Lib.hid ct_18_0
      replace ct_18_0 := cell_regrown ct_18_0
      have b3t_18 : nt_18 < 10 := by have h_ := lt_18; have hn_ := hnearliest_7l0.out; omega
      have b4t_18 : (nt_18 : Int) < (10 : Int) := by omega
      replace H := let_hid H
      obtain ⟨t_22, ht_22, H⟩ := H
      refine wp_region_quiet_below (by kernel_rfl) (by kernel_rfl) ?_
      repeat (go_big_quiet_step (fail))
      refine wpQuiet_nil ?_
      intro Y6 hY6
      replace hY6 := below_class hY6
      replace kt_0_0__685 := Hkt_0_0__685.out
      clear Hkt_0_0__685
      replace kt_0_1__686 := Hkt_0_1__686.out
      clear Hkt_0_1__686
      replace kt_0_2__687 := Hkt_0_2__687.out
      clear Hkt_0_2__687
      replace kt_0_3__688 := Hkt_0_3__688.out
      clear Hkt_0_3__688
      replace kt_0_4__689 := Hkt_0_4__689.out
      clear Hkt_0_4__689
      replace kt_0_5__690 := Hkt_0_5__690.out
      clear Hkt_0_5__690
      replace kt_0_6__691 := Hkt_0_6__691.out
      clear Hkt_0_6__691
      replace kt_0_7__692 := Hkt_0_7__692.out
      clear Hkt_0_7__692
      replace kt_0_8__693 := Hkt_0_8__693.out
      clear Hkt_0_8__693
      replace kt_0_9__694 := Hkt_0_9__694.out
      clear Hkt_0_9__694
      replace ct_12_0__695 := Hct_12_0__695.out
      clear Hct_12_0__695
      replace ct_12_1__696 := Hct_12_1__696.out
      clear Hct_12_1__696
      replace ct_12_2__697 := Hct_12_2__697.out
      clear Hct_12_2__697
      replace ct_12_3__698 := Hct_12_3__698.out
      clear Hct_12_3__698
      replace kx_14_0 := Hkx_14_0.out
      clear Hkx_14_0
      replace kx_14_1 := Hkx_14_1.out
      clear Hkx_14_1
      replace kx_14_2 := Hkx_14_2.out
      clear Hkx_14_2
      replace kx_14_3 := Hkx_14_3.out
      clear Hkx_14_3
      replace ct_18_0 := Hct_18_0.out
      clear Hct_18_0
      have HBY6 := Lib.hid (Below.step HBw_x_14.out hY6)
      replace kt_0_0__685 := cell_below hY6 kt_0_0__685
      replace kt_0_1__686 := cell_below hY6 kt_0_1__686
      replace kt_0_2__687 := cell_below hY6 kt_0_2__687
      replace kt_0_3__688 := cell_below hY6 kt_0_3__688
      replace kt_0_4__689 := cell_below hY6 kt_0_4__689
      replace kt_0_5__690 := cell_below hY6 kt_0_5__690
      replace kt_0_6__691 := cell_below hY6 kt_0_6__691
      replace kt_0_7__692 := cell_below hY6 kt_0_7__692
      replace kt_0_8__693 := cell_below hY6 kt_0_8__693
      replace kt_0_9__694 := cell_below hY6 kt_0_9__694
      replace ct_12_0__695 := cell_below hY6 ct_12_0__695
      replace ct_12_1__696 := cell_below hY6 ct_12_1__696
      replace ct_12_2__697 := cell_below hY6 ct_12_2__697
      replace ct_12_3__698 := cell_below hY6 ct_12_3__698
      replace kx_14_0 := cell_below hY6 kx_14_0
      replace kx_14_1 := cell_below hY6 kx_14_1
      replace kx_14_2 := cell_below hY6 kx_14_2
      replace kx_14_3 := cell_below hY6 kx_14_3
      replace ct_18_0 := cell_below hY6 ct_18_0
      replace Oearliest_7l0 := Lib.hid (own_below Oearliest_7l0.out hY6)
      replace Ot_0 := Lib.hid (own_below Ot_0.out hY6)
      clear hY6
      cases t_22 with
      | false =>
        replace H := ite_f H
        replace H := app_hid H
        go_wp2_with fail
        go_roundg m0
        case measure => omega
        case rel => exact ⟨k0 + 1, _, by omega, by go_num, H, HBY6, kt_0_0__685, kt_0_1__686, kt_0_2__687, kt_0_3__688, kt_0_4__689, kt_0_5__690, kt_0_6__691, kt_0_7__692, kt_0_8__693, kt_0_9__694, Ot_0, Oearliest_7l0, Lib.hid (hnearliest_7l0.out), Lib.hid Dearliest_7l0_t_0.out⟩
      | true =>
        replace H := ite_t H
        go_wp2_with fail
        obtain ⟨Z7, hZ7⟩ : ∃ x, Y6.drew = x := ⟨_, rfl⟩
        have bd7 : Below Y6.heap.size Y6 Z7 := by rw [← hZ7]; exact (Below.refl _ _).drew
        have HBZ7 := Lib.hid (Below.step HBY6.out bd7)
        replace kt_0_0__685 := cell_below bd7 kt_0_0__685
        replace kt_0_1__686 := cell_below bd7 kt_0_1__686
        replace kt_0_2__687 := cell_below bd7 kt_0_2__687
        replace kt_0_3__688 := cell_below bd7 kt_0_3__688
        replace kt_0_4__689 := cell_below bd7 kt_0_4__689
        replace kt_0_5__690 := cell_below bd7 kt_0_5__690
        replace kt_0_6__691 := cell_below bd7 kt_0_6__691
        replace kt_0_7__692 := cell_below bd7 kt_0_7__692
        replace kt_0_8__693 := cell_below bd7 kt_0_8__693
        replace kt_0_9__694 := cell_below bd7 kt_0_9__694
        replace ct_12_0__695 := cell_below bd7 ct_12_0__695
        replace ct_12_1__696 := cell_below bd7 ct_12_1__696
        replace ct_12_2__697 := cell_below bd7 ct_12_2__697
        replace ct_12_3__698 := cell_below bd7 ct_12_3__698
        replace kx_14_0 := cell_below bd7 kx_14_0
        replace kx_14_1 := cell_below bd7 kx_14_1
        replace kx_14_2 := cell_below bd7 kx_14_2
        replace kx_14_3 := cell_below bd7 kx_14_3
        replace ct_18_0 := cell_below bd7 ct_18_0
        replace Oearliest_7l0 := Lib.hid (own_below Oearliest_7l0.out bd7)
        replace Ot_0 := Lib.hid (own_below Ot_0.out bd7)
        clear bd7
        replace H := idx_hid H
        obtain ⟨nt_27, yt_27, et_27, lt_27, gt_27, H⟩ := H
        subst et_27
        have hqt_27 := hnearliest_7l0.out
        obtain ⟨ab_t_27, ao_t_27, zt_27, At_27, z_t_27, ct_27_0⟩ := Go.Proofs.Ytfjcibkgbalkaaa.HelpInt.Ints.at_ (own_cells Oearliest_7l0.out) (k := nt_27) (by omega)
        obtain rfl := Option.some.inj (gt_27.out.symm.trans z_t_27)
        simp only [Option.some.injEq, Addr.mk.injEq] at At_27
        obtain ⟨rfl, rfl, _⟩ := At_27
        clear z_t_27
        simp only [Nat.zero_add] at ct_27_0
        have b0t_27 : (0 : Int) ≤ (nt_27 : Int) := by omega
        have b1t_27 : (nt_27 : Int) < ((10 : Nat) : Int) := by omega
        have b2t_27 : ((nt_27 : Int)).toNat = nt_27 := by omega
        clear hqt_27
        have b3t_27 : nt_27 < 10 := by have h_ := lt_27; have hn_ := hnearliest_7l0.out; omega
        have b4t_27 : (nt_27 : Int) < (10 : Int) := by omega
        replace H := let_hid H
        obtain ⟨t_31, ht_31, H⟩ := H
        replace H := idx_hid H
        obtain ⟨nt_32, yt_32, et_32, lt_32, gt_32, H⟩ := H
        obtain rfl : nt_27 = nt_32 := by omega
        clear et_32
        obtain rfl := Option.some.inj (gt_27.out.symm.trans gt_32.out)
        clear gt_32 lt_32
        have b3t_32 : nt_27 < 10 := by have h_ := lt_27; have hn_ := hnearliest_7l0.out; omega
        have b4t_32 : (nt_27 : Int) < (10 : Int) := by omega
        refine wp_region_still_tail 10 (by kernel_rfl) (by kernel_rfl) ?_
        simp only [List.take_succ_cons, List.take_zero, List.drop_succ_cons, List.drop_zero]
        change wpStill _ _ Y6.drew _ _ _
        rw [hZ7]
        repeat still_step
        refine wpStill_nil ?_
        change wpList _ _ _ _ _ Y6.drew
        rw [hZ7]
        clear hZ7
        replace H := let_hid H
        obtain ⟨l33_33, hl33_33, H⟩ := H
        try simp only [Int.toNat_natCast] at hl33_33
        obtain ⟨wl33_33, hwl33_33⟩ : ∃ x, (Z7).setCell ⟨wt_1.heap.size, nt_27, none⟩ (.int .i64 t_31) = x := ⟨_, rfl⟩
        have z0l33_33 := Oearliest_7l0.out.frozenAt (nt_27)
        have Sl33_33 := Lib.hid (own_stores [(nt_27, .int .i64 t_31)] Oearliest_7l0.out)
        have nl33_33 : Hid (l33_33.length = 10) := Lib.hid (by rw [← hl33_33, List.length_set]; exact hnearliest_7l0.out)
        have Pl33_33 : Hid (wl33_33.ownsRow w.heap.size 92 1 (.slice (some ⟨wt_1.heap.size, 0, none⟩) 10 10) 10 (Go.Proofs.Ytfjcibkgbalkaaa.HelpInt.iv l33_33)) := Lib.hid (by have e_ : ([(nt_27, .int .i64 t_31)] : List (Nat × Value)).foldl (fun xs p => xs.set p.1 p.2) (Go.Proofs.Ytfjcibkgbalkaaa.HelpInt.iv earliest_7l0) = (Go.Proofs.Ytfjcibkgbalkaaa.HelpInt.iv l33_33) := (by rw [← hl33_33]; first | done | simp [Go.Proofs.Ytfjcibkgbalkaaa.HelpInt.iv, List.map_set]); rw [← hwl33_33, ← e_]; exact Sl33_33.out.1)
        have Gl33_33 : Hid (Z7.grownBy wl33_33 (Value.slice (some ⟨wt_1.heap.size, 0, none⟩) 10 10).ownBlock) := Lib.hid (by rw [← hwl33_33]; exact Sl33_33.out.2)
        have HBwl33_33 := Lib.hid (HBZ7.out.grown Gl33_33.out HBZ7.out.size (fun q hq => (Oearliest_7l0.out.lt q hq).1))
        have hhl33_33 := Lib.hid hl33_33
        clear hl33_33 Sl33_33
        have kt_0_0__699 := cell_other kt_0_0__685 Gl33_33.out Dearliest_7l0_t_0.out
        have kt_0_1__700 := cell_other kt_0_1__686 Gl33_33.out Dearliest_7l0_t_0.out
        have kt_0_2__701 := cell_other kt_0_2__687 Gl33_33.out Dearliest_7l0_t_0.out
        have kt_0_3__702 := cell_other kt_0_3__688 Gl33_33.out Dearliest_7l0_t_0.out
        have kt_0_4__703 := cell_other kt_0_4__689 Gl33_33.out Dearliest_7l0_t_0.out
        have kt_0_5__704 := cell_other kt_0_5__690 Gl33_33.out Dearliest_7l0_t_0.out
        have kt_0_6__705 := cell_other kt_0_6__691 Gl33_33.out Dearliest_7l0_t_0.out
        have kt_0_7__706 := cell_other kt_0_7__692 Gl33_33.out Dearliest_7l0_t_0.out
        have kt_0_8__707 := cell_other kt_0_8__693 Gl33_33.out Dearliest_7l0_t_0.out
        have kt_0_9__708 := cell_other kt_0_9__694 Gl33_33.out Dearliest_7l0_t_0.out
        have ct_12_0__709 := cell_other ct_12_0__695 Gl33_33.out (apart_old Oearliest_7l0.out ltt_12)
        have ct_12_1__710 := cell_other ct_12_1__696 Gl33_33.out (apart_old Oearliest_7l0.out ltt_12)
        have ct_12_2__711 := cell_other ct_12_2__697 Gl33_33.out (apart_old Oearliest_7l0.out ltt_12)
        have ct_12_3__712 := cell_other ct_12_3__698 Gl33_33.out (apart_old Oearliest_7l0.out ltt_12)
        have kx_14_0__713 := cell_other kx_14_0 Gl33_33.out (Apart.symm Dx_14_earliest_7l0.out)
        have kx_14_1__714 := cell_other kx_14_1 Gl33_33.out (Apart.symm Dx_14_earliest_7l0.out)
        have kx_14_2__715 := cell_other kx_14_2 Gl33_33.out (Apart.symm Dx_14_earliest_7l0.out)
        have kx_14_3__716 := cell_other kx_14_3 Gl33_33.out (Apart.symm Dx_14_earliest_7l0.out)
        replace Ot_0 := Lib.hid (own_other Ot_0.out Gl33_33.out Dearliest_7l0_t_0.out)
        clear Oearliest_7l0 Gl33_33
        replace H := app_hid H
        go_wp2_with fail
        clear z0l33_33 kt_0_0__685 kt_0_1__686 kt_0_2__687 kt_0_3__688 kt_0_4__689 kt_0_5__690 kt_0_6__691 kt_0_7__692 kt_0_8__693 kt_0_9__694 ct_12_0__695 ct_12_1__696 ct_12_2__697 ct_12_3__698 kx_14_0 kx_14_1 kx_14_2 kx_14_3 ct_18_0 ct_27_0
        go_roundg m0
        case measure => omega
        case rel => exact ⟨k0 + 1, _, by omega, by go_num, H, HBwl33_33, kt_0_0__699, kt_0_1__700, kt_0_2__701, kt_0_3__702, kt_0_4__703, kt_0_5__704, kt_0_6__705, kt_0_7__706, kt_0_8__707, kt_0_9__708, Ot_0, Pl33_33, Lib.hid (nl33_33.out), Lib.hid Dearliest_7l0_t_0.out⟩
end Go.Proofs.Ytfjcibkgbalkaaa.GiEarliestMinutes

/- loop.example/g01062/impl.EarliestAt as a plain function, and the contract of the program's: where the plain one has an answer, the program has it. Conditions: slices read as lists. -/
namespace Go.Proofs.Ytfjcibkgbalkaaa.GiEarliestAt
set_option linter.unusedVariables false
set_option linter.unusedSimpArgs false
open Go.RowKit
open Go.Proofs.Ytfjcibkgbalkaaa.Rowed Go.Proofs.Ytfjcibkgbalkaaa.Turn Go.Proofs.Ytfjcibkgbalkaaa.Aid Go.Proofs.Ytfjcibkgbalkaaa.GoP Go.Proofs.Ytfjcibkgbalkaaa.GoM

def P (list : (List Go.Proofs.Ytfjcibkgbalkaaa.PMail.Mail)) (from_1 : Int) (minute : Int) (to : Int) : Option (Int × Bool) :=
  Option.bind (Go.Proofs.Ytfjcibkgbalkaaa.GiCanBegin.P list from_1 minute) fun (t_5 : Bool) =>
  letK (!t_5) fun (t_6 : Bool) =>
  joinK (fun (t_11 : Bool) =>
  iteK t_11
  (some (0, false))
  (Option.bind (Go.Proofs.Ytfjcibkgbalkaaa.GiEarliestMinutes.P list from_1 minute) fun (t_17 : Go.Proofs.Ytfjcibkgbalkaaa.PIntA10.IntA10) =>
  unIntA10 t_17 fun (t_17_x0 : Int) (t_17_x1 : Int) (t_17_x2 : Int) (t_17_x3 : Int) (t_17_x4 : Int) (t_17_x5 : Int) (t_17_x6 : Int) (t_17_x7 : Int) (t_17_x8 : Int) (t_17_x9 : Int) =>
  Option.bind (idx [t_17_x0, t_17_x1, t_17_x2, t_17_x3, t_17_x4, t_17_x5, t_17_x6, t_17_x7, t_17_x8, t_17_x9] to) fun (yt_19 : Int) =>
  letK (yt_19 == 10000) fun (t_22 : Bool) =>
  iteK t_22
  (some (0, false))
  (some (yt_19, true)))) fun jt_11 => iteK t_6 (appK jt_11 true) (Option.bind (Go.Proofs.Ytfjcibkgbalkaaa.GiIsPostOffice.P to) fun (t_9 : Bool) =>
  letK (!t_9) fun (t_10 : Bool) =>
  appK jt_11 t_10)

set_option maxRecDepth 100000 in
set_option maxHeartbeats 2000000 in
theorem C (list : (List Go.Proofs.Ytfjcibkgbalkaaa.PMail.Mail)) (from_1 : Int) (minute : Int) (to : Int) (A0 : Option Addr) (c0 : Nat)  (w : World) (M0 : Hid (Cells w 4 A0 list.length (Go.Proofs.Ytfjcibkgbalkaaa.PMail.flat list))) (N0 : Hid (list.length ≤ 9223372036854775807))  {r0 : Int} {r1 : Bool} (H : Hid (P list from_1 minute to = some (r0, r1))) :
    Calls Try.prog 36 #[.slice A0 list.length c0, .int .i64 from_1, .int .i64 minute, .int .i64 to] w (Gives (.tuple #[.int .i64 r0, .bool r1]) w) := by
  have HB := Lib.hid (Below.refl w.heap.size w)
  unfold P at H
  have N0o := N0.out
  go_enter Try.func36, Try.ntmps36
  replace H := bind_hid H
  obtain ⟨t_5, qt_5, H⟩ := H
  go_wp2_with fail
  go_at_call 96
  refine (Go.Proofs.Ytfjcibkgbalkaaa.GiCanBegin.C (list) (from_1) (minute) A0 c0 _   (Lib.hid (Cells.below M0.out HB.out)) N0 qt_5).mono ?_
  rintro e_t_5 wt_5 ⟨rfl, bt_5⟩
  have HBwt_5 := Lib.hid (Below.step HB.out bt_5)
  clear bt_5
  cases t_5 with
  | false =>
    replace H := let_hid H
    obtain ⟨t_6, ht_6, H⟩ := H
    obtain rfl : t_6 = true := ht_6.symm
    replace H := join_hid H
    replace H := ite_t H
    replace H := app_hid H
    replace H := ite_t H
    cases ret_hid H
    go_wp2_with fail
    go_ret2
    exact ⟨rfl, HBwt_5.out⟩
  | true =>
    replace H := let_hid H
    obtain ⟨t_6, ht_6, H⟩ := H
    obtain rfl : t_6 = false := ht_6.symm
    replace H := join_hid H
    replace H := ite_f H
    replace H := bind_hid H
    obtain ⟨t_9, qt_9, H⟩ := H
    go_wp2_with fail
    go_at_call 97
    refine (Go.Proofs.Ytfjcibkgbalkaaa.GiIsPostOffice.C (to)  _    qt_9).mono ?_
    rintro e_t_9 wt_9 ⟨rfl, bt_9⟩
    have HBwt_9 := Lib.hid (Below.step HBwt_5.out bt_9)
    clear bt_9
    cases t_9 with
    | false =>
      replace H := let_hid H
      obtain ⟨t_10, ht_10, H⟩ := H
      obtain rfl : t_10 = true := ht_10.symm
      replace H := app_hid H
      replace H := ite_t H
      cases ret_hid H
      go_wp2_with fail
      go_ret2
      exact ⟨rfl, HBwt_9.out⟩
    | true =>
      replace H := let_hid H
      obtain ⟨t_10, ht_10, H⟩ := H
      obtain rfl : t_10 = false := ht_10.symm
      replace H := app_hid H
      replace H := ite_f H
      replace H := bind_hid H
      obtain ⟨t_17, qt_17, H⟩ := H
      obtain ⟨t_17_x0, t_17_x1, t_17_x2, t_17_x3, t_17_x4, t_17_x5, t_17_x6, t_17_x7, t_17_x8, t_17_x9⟩ := t_17
      replace H := unIntA10_hid H
      go_wp2_with fail
      go_at_call 98
      refine (Go.Proofs.Ytfjcibkgbalkaaa.GiEarliestMinutes.C (list) (from_1) (minute) A0 c0 _   (Lib.hid (Cells.below M0.out HBwt_9.out)) N0 qt_17).mono ?_
      rintro e_t_17 wt_17 ⟨rfl, bt_17⟩
      unfold Go.Proofs.Ytfjcibkgbalkaaa.PIntA10.IntA10.val
      have HBwt_17 := Lib.hid (Below.step HBwt_9.out bt_17)
      clear bt_17
      replace H := idx_hid H
      obtain ⟨nt_19, yt_19, et_19, lt_19, gt_19, H⟩ := H
      subst et_19
      have it_19 : ∀ w, (Instr.index 92 (.agg #[.int .i64 t_17_x0, .int .i64 t_17_x1, .int .i64 t_17_x2, .int .i64 t_17_x3, .int .i64 t_17_x4, .int .i64 t_17_x5, .int .i64 t_17_x6, .int .i64 t_17_x7, .int .i64 t_17_x8, .int .i64 t_17_x9]) (.int .i64 (nt_19 : Int))).run Try.prog w = .ok (.int .i64 yt_19) w := by
        intro w
        have hl := lt_19
        have hg := gt_19.out
        clear gt_19 H
        rcases nt_19 with _ | _ | _ | _ | _ | _ | _ | _ | _ | _ | _
        · obtain rfl := Option.some.inj hg; rfl
        · obtain rfl := Option.some.inj hg; rfl
        · obtain rfl := Option.some.inj hg; rfl
        · obtain rfl := Option.some.inj hg; rfl
        · obtain rfl := Option.some.inj hg; rfl
        · obtain rfl := Option.some.inj hg; rfl
        · obtain rfl := Option.some.inj hg; rfl
        · obtain rfl := Option.some.inj hg; rfl
        · obtain rfl := Option.some.inj hg; rfl
        · obtain rfl := Option.some.inj hg; rfl
        · simp at hl; omega
      replace H := let_hid H
      obtain ⟨t_22, ht_22, H⟩ := H
      cases t_22 with
      | false =>
        replace H := ite_f H
        cases ret_hid H
        go_wp2_with fail
        go_ret2
        exact ⟨rfl, HBwt_17.out⟩
      | true =>
        replace H := ite_t H
        cases ret_hid H
        go_wp2_with fail
        go_ret2
        exact ⟨rfl, HBwt_17.out⟩
end Go.Proofs.Ytfjcibkgbalkaaa.GiEarliestAt

/- loop.example/g01062/impl.latestMinutes as a plain function, and the contract of the program's: where the plain one has an answer, the program has it. Conditions: slices read as lists. -/
namespace Go.Proofs.Ytfjcibkgbalkaaa.GiLatestMinutes
set_option linter.unusedVariables false
set_option linter.unusedSimpArgs false
open Go.RowKit
open Go.Proofs.Ytfjcibkgbalkaaa.Rowed Go.Proofs.Ytfjcibkgbalkaaa.Turn Go.Proofs.Ytfjcibkgbalkaaa.Aid Go.Proofs.Ytfjcibkgbalkaaa.GoP Go.Proofs.Ytfjcibkgbalkaaa.GoM

def l0 (list : (List Go.Proofs.Ytfjcibkgbalkaaa.PMail.Mail)) (s : (List Int) × Int) (nx0 bk0 : (List Int) × Int → Option (Go.Proofs.Ytfjcibkgbalkaaa.PIntA10.IntA10)) : Option (Go.Proofs.Ytfjcibkgbalkaaa.PIntA10.IntA10) :=
  unp2 s fun latest_7l0 i_8l0 =>
  letK (decide (0 ≤ i_8l0)) fun (t_13 : Bool) =>
  iteK t_13
  (Option.bind (idx list i_8l0) fun (yt_16 : Go.Proofs.Ytfjcibkgbalkaaa.PMail.Mail) =>
  unMail yt_16 fun (t_16_leave : Int) (t_16_from_ : Int) (t_16_to_ : Int) (t_16_arrive : Int) =>
  Option.bind (idx latest_7l0 t_16_to_) fun (yt_24 : Int) =>
  letK (decide (t_16_arrive ≤ yt_24)) fun (t_26 : Bool) =>
  iteK t_26
  (Option.bind (idx latest_7l0 t_16_from_) fun (yt_31 : Int) =>
  letK (max yt_31 t_16_leave) fun (t_35 : Int) =>
  Option.bind (idx latest_7l0 t_16_from_) fun (yt_36 : Int) =>
  letK (latest_7l0.set (t_16_from_).toNat t_35) fun (l37_37 : (List Int)) =>
  letK (IntKind.i64.wrap (i_8l0 - 1)) fun (t_39 : Int) =>
  appK nx0 (l37_37, t_39))
  (letK (IntKind.i64.wrap (i_8l0 - 1)) fun (t_39 : Int) =>
  appK nx0 (latest_7l0, t_39)))
  (appK bk0 (latest_7l0, i_8l0))

def e0  (s : (List Int) × Int) : Option (Go.Proofs.Ytfjcibkgbalkaaa.PIntA10.IntA10) :=
  unp2 s fun latest_7l0 i_8l0 =>
  some (Go.Proofs.Ytfjcibkgbalkaaa.PIntA10.IntA10.mk (Go.Proofs.Ytfjcibkgbalkaaa.GoA.nth latest_7l0 0) (Go.Proofs.Ytfjcibkgbalkaaa.GoA.nth latest_7l0 1) (Go.Proofs.Ytfjcibkgbalkaaa.GoA.nth latest_7l0 2) (Go.Proofs.Ytfjcibkgbalkaaa.GoA.nth latest_7l0 3) (Go.Proofs.Ytfjcibkgbalkaaa.GoA.nth latest_7l0 4) (Go.Proofs.Ytfjcibkgbalkaaa.GoA.nth latest_7l0 5) (Go.Proofs.Ytfjcibkgbalkaaa.GoA.nth latest_7l0 6) (Go.Proofs.Ytfjcibkgbalkaaa.GoA.nth latest_7l0 7) (Go.Proofs.Ytfjcibkgbalkaaa.GoA.nth latest_7l0 8) (Go.Proofs.Ytfjcibkgbalkaaa.GoA.nth latest_7l0 9))

def P (fuel : Nat) (list : (List Go.Proofs.Ytfjcibkgbalkaaa.PMail.Mail)) (to : Int) (by_2 : Int) : Option (Go.Proofs.Ytfjcibkgbalkaaa.PIntA10.IntA10) :=
  Option.bind (Go.Proofs.Ytfjcibkgbalkaaa.GiFilledWith.P (-1)) fun (t_1 : Go.Proofs.Ytfjcibkgbalkaaa.PIntA10.IntA10) =>
  unIntA10 t_1 fun (t_1_x0 : Int) (t_1_x1 : Int) (t_1_x2 : Int) (t_1_x3 : Int) (t_1_x4 : Int) (t_1_x5 : Int) (t_1_x6 : Int) (t_1_x7 : Int) (t_1_x8 : Int) (t_1_x9 : Int) =>
  letK ([t_1_x0, t_1_x1, t_1_x2, t_1_x3, t_1_x4, t_1_x5, t_1_x6, t_1_x7, t_1_x8, t_1_x9]) fun (vlatest_2 : (List Int)) =>
  Option.bind (idx vlatest_2 to) fun (yt_6 : Int) =>
  letK (vlatest_2.set (to).toNat by_2) fun (l7_7 : (List Int)) =>
  letK (IntKind.i64.wrap ((list.length : Int) - 1)) fun (t_10 : Int) =>
  loopK (l0 list) fuel (l7_7, t_10) (e0 )

set_option maxRecDepth 100000 in
set_option maxHeartbeats 2000000 in
theorem C (fuel : Nat) (list : (List Go.Proofs.Ytfjcibkgbalkaaa.PMail.Mail)) (to : Int) (by_2 : Int) (A0 : Option Addr) (c0 : Nat)  (w : World) (M0 : Hid (Cells w 4 A0 list.length (Go.Proofs.Ytfjcibkgbalkaaa.PMail.flat list))) (N0 : Hid (list.length ≤ 9223372036854775807))  {r : Go.Proofs.Ytfjcibkgbalkaaa.PIntA10.IntA10} (H : Hid (P fuel list to by_2 = some r)) :
    Calls Try.prog 91 #[.slice A0 list.length c0, .int .i64 to, .int .i64 by_2] w (Gives ((Go.Proofs.Ytfjcibkgbalkaaa.PIntA10.IntA10.val r)) w) := by
  have HB := Lib.hid (Below.refl w.heap.size w)
  unfold P at H
  have N0o := N0.out
  go_enter Try.func91, Try.ntmps91
  obtain ⟨w_t_0, hw_t_0⟩ : ∃ x, w.alloc (.cells #[.int .i64 0, .int .i64 0, .int .i64 0, .int .i64 0, .int .i64 0, .int .i64 0, .int .i64 0, .int .i64 0, .int .i64 0, .int .i64 0] 92) = x := ⟨_, rfl⟩
  have bw_t_0 : Below w.heap.size w w_t_0 := by rw [← hw_t_0]; exact (Below.refl _ _).alloc (Nat.le_refl _) _
  have HBw_t_0 := Lib.hid (Below.step HB.out bw_t_0)
  clear bw_t_0
  have kt_0_0 : w_t_0.cell? ⟨w.heap.size, 0, none⟩ = some (.int .i64 0) := by rw [← hw_t_0]; exact box_new _ _ _ 0 _ rfl
  have kt_0_1 : w_t_0.cell? ⟨w.heap.size, 1, none⟩ = some (.int .i64 0) := by rw [← hw_t_0]; exact box_new _ _ _ 1 _ rfl
  have kt_0_2 : w_t_0.cell? ⟨w.heap.size, 2, none⟩ = some (.int .i64 0) := by rw [← hw_t_0]; exact box_new _ _ _ 2 _ rfl
  have kt_0_3 : w_t_0.cell? ⟨w.heap.size, 3, none⟩ = some (.int .i64 0) := by rw [← hw_t_0]; exact box_new _ _ _ 3 _ rfl
  have kt_0_4 : w_t_0.cell? ⟨w.heap.size, 4, none⟩ = some (.int .i64 0) := by rw [← hw_t_0]; exact box_new _ _ _ 4 _ rfl
  have kt_0_5 : w_t_0.cell? ⟨w.heap.size, 5, none⟩ = some (.int .i64 0) := by rw [← hw_t_0]; exact box_new _ _ _ 5 _ rfl
  have kt_0_6 : w_t_0.cell? ⟨w.heap.size, 6, none⟩ = some (.int .i64 0) := by rw [← hw_t_0]; exact box_new _ _ _ 6 _ rfl
  have kt_0_7 : w_t_0.cell? ⟨w.heap.size, 7, none⟩ = some (.int .i64 0) := by rw [← hw_t_0]; exact box_new _ _ _ 7 _ rfl
  have kt_0_8 : w_t_0.cell? ⟨w.heap.size, 8, none⟩ = some (.int .i64 0) := by rw [← hw_t_0]; exact box_new _ _ _ 8 _ rfl
  have kt_0_9 : w_t_0.cell? ⟨w.heap.size, 9, none⟩ = some (.int .i64 0) := by rw [← hw_t_0]; exact box_new _ _ _ 9 _ rfl
  have Ot_0 : Hid (w_t_0.ownsRow w.heap.size 92 10 (.slice (some ⟨w.heap.size, 0, none⟩) 1 1) 1 [.int .i64 0, .int .i64 0, .int .i64 0, .int .i64 0, .int .i64 0, .int .i64 0, .int .i64 0, .int .i64 0, .int .i64 0, .int .i64 0]) := Lib.hid (by rw [← hw_t_0]; exact own_laid (n := 1) HB.out.size rfl rfl (by unfold maxLen; omega))
  replace H := bind_hid H
  obtain ⟨t_1, qt_1, H⟩ := H
  obtain ⟨t_1_x0, t_1_x1, t_1_x2, t_1_x3, t_1_x4, t_1_x5, t_1_x6, t_1_x7, t_1_x8, t_1_x9⟩ := t_1
  replace H := unIntA10_hid H
  go_wp2_with fail
  go_at_call 115
  refine (Go.Proofs.Ytfjcibkgbalkaaa.GiFilledWith.C ((-1))  _    qt_1).mono ?_
  rintro e_t_1 wt_1 ⟨rfl, bt_1⟩
  unfold Go.Proofs.Ytfjcibkgbalkaaa.PIntA10.IntA10.val
  have HBwt_1 := Lib.hid (Below.step HBw_t_0.out bt_1)
  replace kt_0_0 := cell_below bt_1 kt_0_0
  replace kt_0_1 := cell_below bt_1 kt_0_1
  replace kt_0_2 := cell_below bt_1 kt_0_2
  replace kt_0_3 := cell_below bt_1 kt_0_3
  replace kt_0_4 := cell_below bt_1 kt_0_4
  replace kt_0_5 := cell_below bt_1 kt_0_5
  replace kt_0_6 := cell_below bt_1 kt_0_6
  replace kt_0_7 := cell_below bt_1 kt_0_7
  replace kt_0_8 := cell_below bt_1 kt_0_8
  replace kt_0_9 := cell_below bt_1 kt_0_9
  replace Ot_0 := Lib.hid (own_below Ot_0.out bt_1)
  clear bt_1
  replace H := let_hid H
  obtain ⟨vlatest_2, hvlatest_2, H⟩ := H
  obtain ⟨w_latest_2, hw_latest_2⟩ : ∃ x, wt_1.alloc (.cells #[.int .i64 t_1_x0, .int .i64 t_1_x1, .int .i64 t_1_x2, .int .i64 t_1_x3, .int .i64 t_1_x4, .int .i64 t_1_x5, .int .i64 t_1_x6, .int .i64 t_1_x7, .int .i64 t_1_x8, .int .i64 t_1_x9] 92) = x := ⟨_, rfl⟩
  have bw_latest_2 : Below wt_1.heap.size wt_1 w_latest_2 := by rw [← hw_latest_2]; exact (Below.refl _ _).alloc (Nat.le_refl _) _
  have hs_latest_2 := HBwt_1.out.size
  have nlatest_2 : vlatest_2.length = 10 := by rw [← hvlatest_2]; rfl
  have Olatest_2 : Hid (w_latest_2.ownsRow w.heap.size 92 1 (.slice (some ⟨wt_1.heap.size, 0, none⟩) 10 10) 10 (Go.Proofs.Ytfjcibkgbalkaaa.HelpInt.iv vlatest_2)) := by
    rw [← hw_latest_2, ← hvlatest_2]
    have e_ : ([.int .i64 t_1_x0, .int .i64 t_1_x1, .int .i64 t_1_x2, .int .i64 t_1_x3, .int .i64 t_1_x4, .int .i64 t_1_x5, .int .i64 t_1_x6, .int .i64 t_1_x7, .int .i64 t_1_x8, .int .i64 t_1_x9] : List Value) = Go.Proofs.Ytfjcibkgbalkaaa.HelpInt.iv [t_1_x0, t_1_x1, t_1_x2, t_1_x3, t_1_x4, t_1_x5, t_1_x6, t_1_x7, t_1_x8, t_1_x9] := rfl
    exact Lib.hid (own_laid (n := 10) hs_latest_2 e_ rfl (by unfold maxLen; omega))
  clear hs_latest_2
  have hhlatest_2 := Lib.hid hvlatest_2
  clear hvlatest_2
  replace nlatest_2 := Lib.hid nlatest_2
  have Dlatest_2_t_0 := Lib.hid (apart_box kt_0_0)
  have HBw_latest_2 := Lib.hid (Below.step HBwt_1.out bw_latest_2)
  have kt_0_0__717 := cell_below bw_latest_2 kt_0_0
  have kt_0_1__718 := cell_below bw_latest_2 kt_0_1
  have kt_0_2__719 := cell_below bw_latest_2 kt_0_2
  have kt_0_3__720 := cell_below bw_latest_2 kt_0_3
  have kt_0_4__721 := cell_below bw_latest_2 kt_0_4
  have kt_0_5__722 := cell_below bw_latest_2 kt_0_5
  have kt_0_6__723 := cell_below bw_latest_2 kt_0_6
  have kt_0_7__724 := cell_below bw_latest_2 kt_0_7
  have kt_0_8__725 := cell_below bw_latest_2 kt_0_8
  have kt_0_9__726 := cell_below bw_latest_2 kt_0_9
  replace Ot_0 := Lib.hid (own_below Ot_0.out bw_latest_2)
  clear bw_latest_2
  replace H := idx_hid H
  obtain ⟨nt_6, yt_6, et_6, lt_6, gt_6, H⟩ := H
  subst et_6
  have hqt_6 := nlatest_2.out
  obtain ⟨ab_t_6, ao_t_6, zt_6, At_6, z_t_6, ct_6_0⟩ := Go.Proofs.Ytfjcibkgbalkaaa.HelpInt.Ints.at_ (own_cells Olatest_2.out) (k := nt_6) (by omega)
  obtain rfl := Option.some.inj (gt_6.out.symm.trans z_t_6)
  simp only [Option.some.injEq, Addr.mk.injEq] at At_6
  obtain ⟨rfl, rfl, _⟩ := At_6
  clear z_t_6
  simp only [Nat.zero_add] at ct_6_0
  have b0t_6 : (0 : Int) ≤ (nt_6 : Int) := by omega
  have b1t_6 : (nt_6 : Int) < ((10 : Nat) : Int) := by omega
  have b2t_6 : ((nt_6 : Int)).toNat = nt_6 := by omega
  clear hqt_6
  have b3t_6 : nt_6 < 10 := by have h_ := lt_6; have hn_ := nlatest_2.out; omega
  have b4t_6 : (nt_6 : Int) < (10 : Int) := by omega
  replace H := let_hid H
  obtain ⟨l7_7, hl7_7, H⟩ := H
  try simp only [Int.toNat_natCast] at hl7_7
  obtain ⟨wl7_7, hwl7_7⟩ : ∃ x, (w_latest_2).setCell ⟨wt_1.heap.size, nt_6, none⟩ (.int .i64 by_2) = x := ⟨_, rfl⟩
  have z0l7_7 := Olatest_2.out.frozenAt (nt_6)
  have Sl7_7 := Lib.hid (own_stores [(nt_6, .int .i64 by_2)] Olatest_2.out)
  have nl7_7 : Hid (l7_7.length = 10) := Lib.hid (by rw [← hl7_7, List.length_set]; exact nlatest_2.out)
  have Pl7_7 : Hid (wl7_7.ownsRow w.heap.size 92 1 (.slice (some ⟨wt_1.heap.size, 0, none⟩) 10 10) 10 (Go.Proofs.Ytfjcibkgbalkaaa.HelpInt.iv l7_7)) := Lib.hid (by have e_ : ([(nt_6, .int .i64 by_2)] : List (Nat × Value)).foldl (fun xs p => xs.set p.1 p.2) (Go.Proofs.Ytfjcibkgbalkaaa.HelpInt.iv vlatest_2) = (Go.Proofs.Ytfjcibkgbalkaaa.HelpInt.iv l7_7) := (by rw [← hl7_7]; first | done | simp [Go.Proofs.Ytfjcibkgbalkaaa.HelpInt.iv, List.map_set]); rw [← hwl7_7, ← e_]; exact Sl7_7.out.1)
  have Gl7_7 : Hid (w_latest_2.grownBy wl7_7 (Value.slice (some ⟨wt_1.heap.size, 0, none⟩) 10 10).ownBlock) := Lib.hid (by rw [← hwl7_7]; exact Sl7_7.out.2)
  have HBwl7_7 := Lib.hid (HBw_latest_2.out.grown Gl7_7.out HBw_latest_2.out.size (fun q hq => (Olatest_2.out.lt q hq).1))
  have hhl7_7 := Lib.hid hl7_7
  clear hl7_7 Sl7_7
  have kt_0_0__727 := cell_other kt_0_0__717 Gl7_7.out Dlatest_2_t_0.out
  have kt_0_1__728 := cell_other kt_0_1__718 Gl7_7.out Dlatest_2_t_0.out
  have kt_0_2__729 := cell_other kt_0_2__719 Gl7_7.out Dlatest_2_t_0.out
  have kt_0_3__730 := cell_other kt_0_3__720 Gl7_7.out Dlatest_2_t_0.out
  have kt_0_4__731 := cell_other kt_0_4__721 Gl7_7.out Dlatest_2_t_0.out
  have kt_0_5__732 := cell_other kt_0_5__722 Gl7_7.out Dlatest_2_t_0.out
  have kt_0_6__733 := cell_other kt_0_6__723 Gl7_7.out Dlatest_2_t_0.out
  have kt_0_7__734 := cell_other kt_0_7__724 Gl7_7.out Dlatest_2_t_0.out
  have kt_0_8__735 := cell_other kt_0_8__725 Gl7_7.out Dlatest_2_t_0.out
  have kt_0_9__736 := cell_other kt_0_9__726 Gl7_7.out Dlatest_2_t_0.out
  replace Ot_0 := Lib.hid (own_other Ot_0.out Gl7_7.out Dlatest_2_t_0.out)
  clear Olatest_2 Gl7_7
  replace H := let_hid H
  obtain ⟨t_10, ht_10, H⟩ := H
  try have hv_t_10 : (list.length : Int) - 1 = t_10 := by rw [← ht_10]; exact (IntWalk.i64_in _ (by omega)).symm
  try have hv2_t_10 : IntKind.i64.wrap t_10 = t_10 := by rw [← hv_t_10]; exact IntWalk.i64_in _ (by omega)
  go_wp2_with fail
  clear kt_0_0 kt_0_1 kt_0_2 kt_0_3 kt_0_4 kt_0_5 kt_0_6 kt_0_7 kt_0_8 kt_0_9 z0l7_7 kt_0_0__717 kt_0_1__718 kt_0_2__719 kt_0_3__720 kt_0_4__721 kt_0_5__722 kt_0_6__723 kt_0_7__724 kt_0_8__725 kt_0_9__726 ct_6_0
  go_wp2_with fail
  go_loopg [8] (fuel) (fun m_ v8_ wr => ∃ (latest_7l0 : (List Int)) (i_8l0 : Int), v8_ = .int .i64 i_8l0 ∧ Hid (loopK (l0 list) m_ (latest_7l0, i_8l0) (e0 ) = some r) ∧ Hid (Below w.heap.size w wr) ∧ wr.cell? ⟨w.heap.size, 0, none⟩ = some (.int .i64 0) ∧ wr.cell? ⟨w.heap.size, 1, none⟩ = some (.int .i64 0) ∧ wr.cell? ⟨w.heap.size, 2, none⟩ = some (.int .i64 0) ∧ wr.cell? ⟨w.heap.size, 3, none⟩ = some (.int .i64 0) ∧ wr.cell? ⟨w.heap.size, 4, none⟩ = some (.int .i64 0) ∧ wr.cell? ⟨w.heap.size, 5, none⟩ = some (.int .i64 0) ∧ wr.cell? ⟨w.heap.size, 6, none⟩ = some (.int .i64 0) ∧ wr.cell? ⟨w.heap.size, 7, none⟩ = some (.int .i64 0) ∧ wr.cell? ⟨w.heap.size, 8, none⟩ = some (.int .i64 0) ∧ wr.cell? ⟨w.heap.size, 9, none⟩ = some (.int .i64 0) ∧ Hid (wr.ownsRow w.heap.size 92 10 (.slice (some ⟨w.heap.size, 0, none⟩) 1 1) 1 [.int .i64 0, .int .i64 0, .int .i64 0, .int .i64 0, .int .i64 0, .int .i64 0, .int .i64 0, .int .i64 0, .int .i64 0, .int .i64 0]) ∧ Hid (wr.ownsRow w.heap.size 92 1 (.slice (some ⟨wt_1.heap.size, 0, none⟩) 10 10) 10 (Go.Proofs.Ytfjcibkgbalkaaa.HelpInt.iv latest_7l0)) ∧ Hid (latest_7l0.length = 10) ∧ Hid (Apart (some ⟨wt_1.heap.size, 0, none⟩) (some ⟨w.heap.size, 0, none⟩)))
  case atStart => exact ⟨_, _, rfl, H, HBwl7_7, kt_0_0__727, kt_0_1__728, kt_0_2__729, kt_0_3__730, kt_0_4__731, kt_0_5__732, kt_0_6__733, kt_0_7__734, kt_0_8__735, kt_0_9__736, Ot_0, Pl7_7, Lib.hid (nl7_7.out), Lib.hid Dlatest_2_t_0.out⟩
  case round =>
    obtain ⟨latest_7l0, i_8l0, rfl, H, HBwr0, kt_0_0__727, kt_0_1__728, kt_0_2__729, kt_0_3__730, kt_0_4__731, kt_0_5__732, kt_0_6__733, kt_0_7__734, kt_0_8__735, kt_0_9__736, Ot_0, Olatest_7l0, hnlatest_7l0, Dlatest_7l0_t_0⟩ := hrel
    rename World => wr0
    cases gk with
    | zero => exact (loop_zero H).elim
    | succ m0 =>
      replace H := loop_succ H
      unfold l0 at H
      replace H := unp2_hid H
      replace H := let_hid H
      obtain ⟨t_13, ht_13, H⟩ := H
      cases t_13 with
      | false =>
        replace H := ite_f H
        replace H := app_hid H
        unfold e0 at H
        replace H := unp2_hid H
        have ka_737 : wr0.cell? ⟨wt_1.heap.size, 0, none⟩ = some (.int .i64 (Go.Proofs.Ytfjcibkgbalkaaa.GoA.nth latest_7l0 0)) := Go.Proofs.Ytfjcibkgbalkaaa.GoA.row_at Olatest_7l0.out hnlatest_7l0.out 0 (by omega)
        have ka_738 : wr0.cell? ⟨wt_1.heap.size, 1, none⟩ = some (.int .i64 (Go.Proofs.Ytfjcibkgbalkaaa.GoA.nth latest_7l0 1)) := Go.Proofs.Ytfjcibkgbalkaaa.GoA.row_at Olatest_7l0.out hnlatest_7l0.out 1 (by omega)
        have ka_739 : wr0.cell? ⟨wt_1.heap.size, 2, none⟩ = some (.int .i64 (Go.Proofs.Ytfjcibkgbalkaaa.GoA.nth latest_7l0 2)) := Go.Proofs.Ytfjcibkgbalkaaa.GoA.row_at Olatest_7l0.out hnlatest_7l0.out 2 (by omega)
        have ka_740 : wr0.cell? ⟨wt_1.heap.size, 3, none⟩ = some (.int .i64 (Go.Proofs.Ytfjcibkgbalkaaa.GoA.nth latest_7l0 3)) := Go.Proofs.Ytfjcibkgbalkaaa.GoA.row_at Olatest_7l0.out hnlatest_7l0.out 3 (by omega)
        have ka_741 : wr0.cell? ⟨wt_1.heap.size, 4, none⟩ = some (.int .i64 (Go.Proofs.Ytfjcibkgbalkaaa.GoA.nth latest_7l0 4)) := Go.Proofs.Ytfjcibkgbalkaaa.GoA.row_at Olatest_7l0.out hnlatest_7l0.out 4 (by omega)
        have ka_742 : wr0.cell? ⟨wt_1.heap.size, 5, none⟩ = some (.int .i64 (Go.Proofs.Ytfjcibkgbalkaaa.GoA.nth latest_7l0 5)) := Go.Proofs.Ytfjcibkgbalkaaa.GoA.row_at Olatest_7l0.out hnlatest_7l0.out 5 (by omega)
        have ka_743 : wr0.cell? ⟨wt_1.heap.size, 6, none⟩ = some (.int .i64 (Go.Proofs.Ytfjcibkgbalkaaa.GoA.nth latest_7l0 6)) := Go.Proofs.Ytfjcibkgbalkaaa.GoA.row_at Olatest_7l0.out hnlatest_7l0.out 6 (by omega)
        have ka_744 : wr0.cell? ⟨wt_1.heap.size, 7, none⟩ = some (.int .i64 (Go.Proofs.Ytfjcibkgbalkaaa.GoA.nth latest_7l0 7)) := Go.Proofs.Ytfjcibkgbalkaaa.GoA.row_at Olatest_7l0.out hnlatest_7l0.out 7 (by omega)
        have ka_745 : wr0.cell? ⟨wt_1.heap.size, 8, none⟩ = some (.int .i64 (Go.Proofs.Ytfjcibkgbalkaaa.GoA.nth latest_7l0 8)) := Go.Proofs.Ytfjcibkgbalkaaa.GoA.row_at Olatest_7l0.out hnlatest_7l0.out 8 (by omega)
        have ka_746 : wr0.cell? ⟨wt_1.heap.size, 9, none⟩ = some (.int .i64 (Go.Proofs.Ytfjcibkgbalkaaa.GoA.nth latest_7l0 9)) := Go.Proofs.Ytfjcibkgbalkaaa.GoA.row_at Olatest_7l0.out hnlatest_7l0.out 9 (by omega)
        obtain ⟨wb42_42, hwb42_42⟩ : ∃ x, ((((((((((wr0).setCell ⟨w.heap.size, 0, none⟩ (.int .i64 (Go.Proofs.Ytfjcibkgbalkaaa.GoA.nth latest_7l0 0))).setCell ⟨w.heap.size, 1, none⟩ (.int .i64 (Go.Proofs.Ytfjcibkgbalkaaa.GoA.nth latest_7l0 1))).setCell ⟨w.heap.size, 2, none⟩ (.int .i64 (Go.Proofs.Ytfjcibkgbalkaaa.GoA.nth latest_7l0 2))).setCell ⟨w.heap.size, 3, none⟩ (.int .i64 (Go.Proofs.Ytfjcibkgbalkaaa.GoA.nth latest_7l0 3))).setCell ⟨w.heap.size, 4, none⟩ (.int .i64 (Go.Proofs.Ytfjcibkgbalkaaa.GoA.nth latest_7l0 4))).setCell ⟨w.heap.size, 5, none⟩ (.int .i64 (Go.Proofs.Ytfjcibkgbalkaaa.GoA.nth latest_7l0 5))).setCell ⟨w.heap.size, 6, none⟩ (.int .i64 (Go.Proofs.Ytfjcibkgbalkaaa.GoA.nth latest_7l0 6))).setCell ⟨w.heap.size, 7, none⟩ (.int .i64 (Go.Proofs.Ytfjcibkgbalkaaa.GoA.nth latest_7l0 7))).setCell ⟨w.heap.size, 8, none⟩ (.int .i64 (Go.Proofs.Ytfjcibkgbalkaaa.GoA.nth latest_7l0 8))).setCell ⟨w.heap.size, 9, none⟩ (.int .i64 (Go.Proofs.Ytfjcibkgbalkaaa.GoA.nth latest_7l0 9)) = x := ⟨_, rfl⟩
        have z0b42_42 := Ot_0.out.frozenAt 0
        have z1b42_42 := Ot_0.out.frozenAt 1
        have z2b42_42 := Ot_0.out.frozenAt 2
        have z3b42_42 := Ot_0.out.frozenAt 3
        have z4b42_42 := Ot_0.out.frozenAt 4
        have z5b42_42 := Ot_0.out.frozenAt 5
        have z6b42_42 := Ot_0.out.frozenAt 6
        have z7b42_42 := Ot_0.out.frozenAt 7
        have z8b42_42 := Ot_0.out.frozenAt 8
        have z9b42_42 := Ot_0.out.frozenAt 9
        have Sb42_42 := Lib.hid (own_stores [(0, .int .i64 (Go.Proofs.Ytfjcibkgbalkaaa.GoA.nth latest_7l0 0)), (1, .int .i64 (Go.Proofs.Ytfjcibkgbalkaaa.GoA.nth latest_7l0 1)), (2, .int .i64 (Go.Proofs.Ytfjcibkgbalkaaa.GoA.nth latest_7l0 2)), (3, .int .i64 (Go.Proofs.Ytfjcibkgbalkaaa.GoA.nth latest_7l0 3)), (4, .int .i64 (Go.Proofs.Ytfjcibkgbalkaaa.GoA.nth latest_7l0 4)), (5, .int .i64 (Go.Proofs.Ytfjcibkgbalkaaa.GoA.nth latest_7l0 5)), (6, .int .i64 (Go.Proofs.Ytfjcibkgbalkaaa.GoA.nth latest_7l0 6)), (7, .int .i64 (Go.Proofs.Ytfjcibkgbalkaaa.GoA.nth latest_7l0 7)), (8, .int .i64 (Go.Proofs.Ytfjcibkgbalkaaa.GoA.nth latest_7l0 8)), (9, .int .i64 (Go.Proofs.Ytfjcibkgbalkaaa.GoA.nth latest_7l0 9))] Ot_0.out)
        have Pb42_42 : Hid (wb42_42.ownsRow w.heap.size 92 10 (.slice (some ⟨w.heap.size, 0, none⟩) 1 1) 1 [.int .i64 (Go.Proofs.Ytfjcibkgbalkaaa.GoA.nth latest_7l0 0), .int .i64 (Go.Proofs.Ytfjcibkgbalkaaa.GoA.nth latest_7l0 1), .int .i64 (Go.Proofs.Ytfjcibkgbalkaaa.GoA.nth latest_7l0 2), .int .i64 (Go.Proofs.Ytfjcibkgbalkaaa.GoA.nth latest_7l0 3), .int .i64 (Go.Proofs.Ytfjcibkgbalkaaa.GoA.nth latest_7l0 4), .int .i64 (Go.Proofs.Ytfjcibkgbalkaaa.GoA.nth latest_7l0 5), .int .i64 (Go.Proofs.Ytfjcibkgbalkaaa.GoA.nth latest_7l0 6), .int .i64 (Go.Proofs.Ytfjcibkgbalkaaa.GoA.nth latest_7l0 7), .int .i64 (Go.Proofs.Ytfjcibkgbalkaaa.GoA.nth latest_7l0 8), .int .i64 (Go.Proofs.Ytfjcibkgbalkaaa.GoA.nth latest_7l0 9)]) := Lib.hid (by rw [← hwb42_42]; exact Sb42_42.out.1)
        have Gb42_42 : Hid (wr0.grownBy wb42_42 (Value.slice (some ⟨w.heap.size, 0, none⟩) 1 1).ownBlock) := Lib.hid (by rw [← hwb42_42]; exact Sb42_42.out.2)
        have HBwb42_42 := Lib.hid (HBwr0.out.grown Gb42_42.out HBwr0.out.size (fun q hq => (Ot_0.out.lt q hq).1))
        clear Sb42_42
        replace Olatest_7l0 := Lib.hid (own_other Olatest_7l0.out Gb42_42.out (Apart.symm Dlatest_7l0_t_0.out))
        clear Ot_0 Gb42_42
        have kt_0_0__747 : wb42_42.cell? ⟨w.heap.size, 0, none⟩ = some (.int .i64 (Go.Proofs.Ytfjcibkgbalkaaa.GoA.nth latest_7l0 0)) := Pb42_42.out.cells rfl 0 _ rfl
        have kt_0_1__748 : wb42_42.cell? ⟨w.heap.size, 1, none⟩ = some (.int .i64 (Go.Proofs.Ytfjcibkgbalkaaa.GoA.nth latest_7l0 1)) := Pb42_42.out.cells rfl 1 _ rfl
        have kt_0_2__749 : wb42_42.cell? ⟨w.heap.size, 2, none⟩ = some (.int .i64 (Go.Proofs.Ytfjcibkgbalkaaa.GoA.nth latest_7l0 2)) := Pb42_42.out.cells rfl 2 _ rfl
        have kt_0_3__750 : wb42_42.cell? ⟨w.heap.size, 3, none⟩ = some (.int .i64 (Go.Proofs.Ytfjcibkgbalkaaa.GoA.nth latest_7l0 3)) := Pb42_42.out.cells rfl 3 _ rfl
        have kt_0_4__751 : wb42_42.cell? ⟨w.heap.size, 4, none⟩ = some (.int .i64 (Go.Proofs.Ytfjcibkgbalkaaa.GoA.nth latest_7l0 4)) := Pb42_42.out.cells rfl 4 _ rfl
        have kt_0_5__752 : wb42_42.cell? ⟨w.heap.size, 5, none⟩ = some (.int .i64 (Go.Proofs.Ytfjcibkgbalkaaa.GoA.nth latest_7l0 5)) := Pb42_42.out.cells rfl 5 _ rfl
        have kt_0_6__753 : wb42_42.cell? ⟨w.heap.size, 6, none⟩ = some (.int .i64 (Go.Proofs.Ytfjcibkgbalkaaa.GoA.nth latest_7l0 6)) := Pb42_42.out.cells rfl 6 _ rfl
        have kt_0_7__754 : wb42_42.cell? ⟨w.heap.size, 7, none⟩ = some (.int .i64 (Go.Proofs.Ytfjcibkgbalkaaa.GoA.nth latest_7l0 7)) := Pb42_42.out.cells rfl 7 _ rfl
        have kt_0_8__755 : wb42_42.cell? ⟨w.heap.size, 8, none⟩ = some (.int .i64 (Go.Proofs.Ytfjcibkgbalkaaa.GoA.nth latest_7l0 8)) := Pb42_42.out.cells rfl 8 _ rfl
        have kt_0_9__756 : wb42_42.cell? ⟨w.heap.size, 9, none⟩ = some (.int .i64 (Go.Proofs.Ytfjcibkgbalkaaa.GoA.nth latest_7l0 9)) := Pb42_42.out.cells rfl 9 _ rfl
        cases ret_hid H
        go_wp2_with fail
        (try simp only [Exit.inBlock, Exit.then])
        refine bodyPost_ret (v := .agg #[.int .i64 (Go.Proofs.Ytfjcibkgbalkaaa.GoA.nth latest_7l0 0), .int .i64 (Go.Proofs.Ytfjcibkgbalkaaa.GoA.nth latest_7l0 1), .int .i64 (Go.Proofs.Ytfjcibkgbalkaaa.GoA.nth latest_7l0 2), .int .i64 (Go.Proofs.Ytfjcibkgbalkaaa.GoA.nth latest_7l0 3), .int .i64 (Go.Proofs.Ytfjcibkgbalkaaa.GoA.nth latest_7l0 4), .int .i64 (Go.Proofs.Ytfjcibkgbalkaaa.GoA.nth latest_7l0 5), .int .i64 (Go.Proofs.Ytfjcibkgbalkaaa.GoA.nth latest_7l0 6), .int .i64 (Go.Proofs.Ytfjcibkgbalkaaa.GoA.nth latest_7l0 7), .int .i64 (Go.Proofs.Ytfjcibkgbalkaaa.GoA.nth latest_7l0 8), .int .i64 (Go.Proofs.Ytfjcibkgbalkaaa.GoA.nth latest_7l0 9)]) ?hr_ ?hd_ ?_
        case hd_ => rfl
        case hr_ => simp [results, Try.results91, kt_0_0__747, kt_0_1__748, kt_0_2__749, kt_0_3__750, kt_0_4__751, kt_0_5__752, kt_0_6__753, kt_0_7__754, kt_0_8__755, kt_0_9__756, go_sem]
        exact ⟨rfl, HBwb42_42.out⟩
      | true =>
        replace H := ite_t H
        replace H := idx_hid H
        obtain ⟨nt_16, yt_16, et_16, lt_16, gt_16, H⟩ := H
        subst et_16
        have nc_757 : 0 ≤ nt_16 := by have := of_decide_eq_true ht_13; omega
        obtain ⟨t_16_leave, t_16_from_, t_16_to_, t_16_arrive⟩ := yt_16
        replace H := unMail_hid H
        obtain ⟨ab_t_16, ao_t_16, zt_16, At_16, z_t_16, ct_16_0, ct_16_1, ct_16_2, ct_16_3⟩ := Go.Proofs.Ytfjcibkgbalkaaa.OMail.at_ M0.out lt_16
        obtain rfl := Option.some.inj (gt_16.out.symm.trans z_t_16)
        subst At_16
        have ltt_16 := cell_lt ct_16_0
        replace ct_16_0 := cell_below HBwr0.out ct_16_0
        replace ct_16_1 := cell_below HBwr0.out ct_16_1
        replace ct_16_2 := cell_below HBwr0.out ct_16_2
        replace ct_16_3 := cell_below HBwr0.out ct_16_3
        clear z_t_16
        have b0t_16 : (0 : Int) ≤ (nt_16 : Int) := by omega
        have b1t_16 : (nt_16 : Int) < ((list.length : Nat) : Int) := by omega
        have b2t_16 : ((nt_16 : Int)).toNat = nt_16 := by omega
        obtain ⟨w_x_18, hw_x_18⟩ : ∃ x, wr0.alloc (.cells #[.int .i64 t_16_leave, .int .i64 t_16_from_, .int .i64 t_16_to_, .int .i64 t_16_arrive] 95) = x := ⟨_, rfl⟩
        have bw_x_18 : Below wr0.heap.size wr0 w_x_18 := by rw [← hw_x_18]; exact (Below.refl _ _).alloc (Nat.le_refl _) _
        have Dx_18_latest_7l0 := Lib.hid (apart_fresh Olatest_7l0.out)
        have Dx_18_t_0 := Lib.hid (apart_box kt_0_0__727)
        have HBw_x_18 := Lib.hid (Below.step HBwr0.out bw_x_18)
        have kt_0_0__758 := cell_below bw_x_18 kt_0_0__727
        have kt_0_1__759 := cell_below bw_x_18 kt_0_1__728
        have kt_0_2__760 := cell_below bw_x_18 kt_0_2__729
        have kt_0_3__761 := cell_below bw_x_18 kt_0_3__730
        have kt_0_4__762 := cell_below bw_x_18 kt_0_4__731
        have kt_0_5__763 := cell_below bw_x_18 kt_0_5__732
        have kt_0_6__764 := cell_below bw_x_18 kt_0_6__733
        have kt_0_7__765 := cell_below bw_x_18 kt_0_7__734
        have kt_0_8__766 := cell_below bw_x_18 kt_0_8__735
        have kt_0_9__767 := cell_below bw_x_18 kt_0_9__736
        have ct_16_0__768 := cell_below bw_x_18 ct_16_0
        have ct_16_1__769 := cell_below bw_x_18 ct_16_1
        have ct_16_2__770 := cell_below bw_x_18 ct_16_2
        have ct_16_3__771 := cell_below bw_x_18 ct_16_3
        replace Olatest_7l0 := Lib.hid (own_below Olatest_7l0.out bw_x_18)
        replace Ot_0 := Lib.hid (own_below Ot_0.out bw_x_18)
        clear bw_x_18
        have kx_18_0 : w_x_18.cell? ⟨wr0.heap.size, 0, none⟩ = some (.int .i64 t_16_leave) := by rw [← hw_x_18]; exact box_new _ _ _ 0 _ rfl
        have kx_18_1 : w_x_18.cell? ⟨wr0.heap.size, 1, none⟩ = some (.int .i64 t_16_from_) := by rw [← hw_x_18]; exact box_new _ _ _ 1 _ rfl
        have kx_18_2 : w_x_18.cell? ⟨wr0.heap.size, 2, none⟩ = some (.int .i64 t_16_to_) := by rw [← hw_x_18]; exact box_new _ _ _ 2 _ rfl
        have kx_18_3 : w_x_18.cell? ⟨wr0.heap.size, 3, none⟩ = some (.int .i64 t_16_arrive) := by rw [← hw_x_18]; exact box_new _ _ _ 3 _ rfl
        go_wp2_with fail
        clear kt_0_0__727 kt_0_1__728 kt_0_2__729 kt_0_3__730 kt_0_4__731 kt_0_5__732 kt_0_6__733 kt_0_7__734 kt_0_8__735 kt_0_9__736 ct_16_0 ct_16_1 ct_16_2 ct_16_3
        have Hkt_0_0__758 := Lib.hid kt_0_0__758
        replace kt_0_0__758 := cell_regrown kt_0_0__758
        have Hkt_0_1__759 := Lib.hid kt_0_1__759
        replace kt_0_1__759 := cell_regrown kt_0_1__759
        have Hkt_0_2__760 := Lib.hid kt_0_2__760
        replace kt_0_2__760 := cell_regrown kt_0_2__760
        have Hkt_0_3__761 := Lib.hid kt_0_3__761
        replace kt_0_3__761 := cell_regrown kt_0_3__761
        have Hkt_0_4__762 := Lib.hid kt_0_4__762
        replace kt_0_4__762 := cell_regrown kt_0_4__762
        have Hkt_0_5__763 := Lib.hid kt_0_5__763
        replace kt_0_5__763 := cell_regrown kt_0_5__763
        have Hkt_0_6__764 := Lib.hid kt_0_6__764
        replace kt_0_6__764 := cell_regrown kt_0_6__764
        have Hkt_0_7__765 := Lib.hid kt_0_7__765
        replace kt_0_7__765 := cell_regrown kt_0_7__765
        have Hkt_0_8__766 := Lib.hid kt_0_8__766
        replace kt_0_8__766 := cell_regrown kt_0_8__766
        have Hkt_0_9__767 := Lib.hid kt_0_9__767
        replace kt_0_9__767 := cell_regrown kt_0_9__767
        have Hct_16_0__768 := Lib.hid ct_16_0__768
        replace ct_16_0__768 := cell_regrown ct_16_0__768
        have Hct_16_1__769 := Lib.hid ct_16_1__769
        replace ct_16_1__769 := cell_regrown ct_16_1__769
        have Hct_16_2__770 := Lib.hid ct_16_2__770
        replace ct_16_2__770 := cell_regrown ct_16_2__770
        have Hct_16_3__771 := Lib.hid ct_16_3__771
        replace ct_16_3__771 := cell_regrown ct_16_3__771
        have Hkx_18_0 := Lib.hid kx_18_0
        replace kx_18_0 := cell_regrown kx_18_0
        have Hkx_18_1 := Lib.hid kx_18_1
        replace kx_18_1 := cell_regrown kx_18_1
        have Hkx_18_2 := Lib.hid kx_18_2
        replace kx_18_2 := cell_regrown kx_18_2
        have Hkx_18_3 := Lib.hid kx_18_3
        replace kx_18_3 := cell_regrown kx_18_3
        replace H := idx_hid H
        obtain ⟨nt_24, yt_24, et_24, lt_24, gt_24, H⟩ := H
        subst et_24
        have hqt_24 := hnlatest_7l0.out
        obtain ⟨ab_t_24, ao_t_24, zt_24, At_24, z_t_24, ct_24_0⟩ := Go.Proofs.Ytfjcibkgbalkaaa.HelpInt.Ints.at_ (own_cells Olatest_7l0.out) (k := nt_24) (by omega)
        obtain rfl := Option.some.inj (gt_24.out.symm.trans z_t_24)
        simp only [Option.some.injEq, Addr.mk.injEq] at At_24
        obtain ⟨rfl, rfl, _⟩ := At_24
        clear z_t_24
        simp only [Nat.zero_add] at ct_24_0
        have b0t_24 : (0 : Int) ≤ (nt_24 : Int) := by omega
        have b1t_24 : (nt_24 : Int) < ((10 : Nat) : Int) := by omega
        have b2t_24 : ((nt_24 : Int)).toNat = nt_24 := by omega
        clear hqt_24
        have Hct_24_0 := Lib.hid ct_24_0
        replace ct_24_0 := cell_regrown ct_24_0
        have b3t_24 : nt_24 < 10 := by have h_ := lt_24; have hn_ := hnlatest_7l0.out; omega
        have b4t_24 : (nt_24 : Int) < (10 : Int) := by omega
        replace H := let_hid H
        obtain ⟨t_26, ht_26, H⟩ := H
        refine wp_region_quiet_below (by kernel_rfl) (by kernel_rfl) ?_
        repeat (go_big_quiet_step (fail))
        refine wpQuiet_nil ?_
        intro Y7 hY7
        replace hY7 := below_class hY7
        replace kt_0_0__758 := Hkt_0_0__758.out
        clear Hkt_0_0__758
        replace kt_0_1__759 := Hkt_0_1__759.out
        clear Hkt_0_1__759
        replace kt_0_2__760 := Hkt_0_2__760.out
        clear Hkt_0_2__760
        replace kt_0_3__761 := Hkt_0_3__761.out
        clear Hkt_0_3__761
        replace kt_0_4__762 := Hkt_0_4__762.out
        clear Hkt_0_4__762
        replace kt_0_5__763 := Hkt_0_5__763.out
        clear Hkt_0_5__763
        replace kt_0_6__764 := Hkt_0_6__764.out
        clear Hkt_0_6__764
        replace kt_0_7__765 := Hkt_0_7__765.out
        clear Hkt_0_7__765
        replace kt_0_8__766 := Hkt_0_8__766.out
        clear Hkt_0_8__766
        replace kt_0_9__767 := Hkt_0_9__767.out
        clear Hkt_0_9__767
        replace ct_16_0__768 := Hct_16_0__768.out
        clear Hct_16_0__768
        replace ct_16_1__769 := Hct_16_1__769.out
        clear Hct_16_1__769
        replace ct_16_2__770 := Hct_16_2__770.out
        clear Hct_16_2__770
        replace ct_16_3__771 := Hct_16_3__771.out
        clear Hct_16_3__771
        replace kx_18_0 := Hkx_18_0.out
        clear Hkx_18_0
        replace kx_18_1 := Hkx_18_1.out
        clear Hkx_18_1
        replace kx_18_2 := Hkx_18_2.out
        clear Hkx_18_2
        replace kx_18_3 := Hkx_18_3.out
        clear Hkx_18_3
        replace ct_24_0 := Hct_24_0.out
        clear Hct_24_0
        have HBY7 := Lib.hid (Below.step HBw_x_18.out hY7)
        replace kt_0_0__758 := cell_below hY7 kt_0_0__758
        replace kt_0_1__759 := cell_below hY7 kt_0_1__759
        replace kt_0_2__760 := cell_below hY7 kt_0_2__760
        replace kt_0_3__761 := cell_below hY7 kt_0_3__761
        replace kt_0_4__762 := cell_below hY7 kt_0_4__762
        replace kt_0_5__763 := cell_below hY7 kt_0_5__763
        replace kt_0_6__764 := cell_below hY7 kt_0_6__764
        replace kt_0_7__765 := cell_below hY7 kt_0_7__765
        replace kt_0_8__766 := cell_below hY7 kt_0_8__766
        replace kt_0_9__767 := cell_below hY7 kt_0_9__767
        replace ct_16_0__768 := cell_below hY7 ct_16_0__768
        replace ct_16_1__769 := cell_below hY7 ct_16_1__769
        replace ct_16_2__770 := cell_below hY7 ct_16_2__770
        replace ct_16_3__771 := cell_below hY7 ct_16_3__771
        replace kx_18_0 := cell_below hY7 kx_18_0
        replace kx_18_1 := cell_below hY7 kx_18_1
        replace kx_18_2 := cell_below hY7 kx_18_2
        replace kx_18_3 := cell_below hY7 kx_18_3
        replace ct_24_0 := cell_below hY7 ct_24_0
        replace Olatest_7l0 := Lib.hid (own_below Olatest_7l0.out hY7)
        replace Ot_0 := Lib.hid (own_below Ot_0.out hY7)
        clear hY7
        cases t_26 with
        | false =>
          replace H := ite_f H
          replace H := let_hid H
          obtain ⟨t_39, ht_39, H⟩ := H
          replace H := app_hid H
          go_wp2_with fail
          go_roundg m0
          case measure => omega
          case rel => exact ⟨_, _, rfl, H, HBY7, kt_0_0__758, kt_0_1__759, kt_0_2__760, kt_0_3__761, kt_0_4__762, kt_0_5__763, kt_0_6__764, kt_0_7__765, kt_0_8__766, kt_0_9__767, Ot_0, Olatest_7l0, Lib.hid (hnlatest_7l0.out), Lib.hid Dlatest_7l0_t_0.out⟩
        | true =>
          replace H := ite_t H
          go_wp2_with fail
          obtain ⟨Z8, hZ8⟩ : ∃ x, Y7.drew = x := ⟨_, rfl⟩
          have bd8 : Below Y7.heap.size Y7 Z8 := by rw [← hZ8]; exact (Below.refl _ _).drew
          have HBZ8 := Lib.hid (Below.step HBY7.out bd8)
          replace kt_0_0__758 := cell_below bd8 kt_0_0__758
          replace kt_0_1__759 := cell_below bd8 kt_0_1__759
          replace kt_0_2__760 := cell_below bd8 kt_0_2__760
          replace kt_0_3__761 := cell_below bd8 kt_0_3__761
          replace kt_0_4__762 := cell_below bd8 kt_0_4__762
          replace kt_0_5__763 := cell_below bd8 kt_0_5__763
          replace kt_0_6__764 := cell_below bd8 kt_0_6__764
          replace kt_0_7__765 := cell_below bd8 kt_0_7__765
          replace kt_0_8__766 := cell_below bd8 kt_0_8__766
          replace kt_0_9__767 := cell_below bd8 kt_0_9__767
          replace ct_16_0__768 := cell_below bd8 ct_16_0__768
          replace ct_16_1__769 := cell_below bd8 ct_16_1__769
          replace ct_16_2__770 := cell_below bd8 ct_16_2__770
          replace ct_16_3__771 := cell_below bd8 ct_16_3__771
          replace kx_18_0 := cell_below bd8 kx_18_0
          replace kx_18_1 := cell_below bd8 kx_18_1
          replace kx_18_2 := cell_below bd8 kx_18_2
          replace kx_18_3 := cell_below bd8 kx_18_3
          replace ct_24_0 := cell_below bd8 ct_24_0
          replace Olatest_7l0 := Lib.hid (own_below Olatest_7l0.out bd8)
          replace Ot_0 := Lib.hid (own_below Ot_0.out bd8)
          clear bd8
          replace H := idx_hid H
          obtain ⟨nt_31, yt_31, et_31, lt_31, gt_31, H⟩ := H
          subst et_31
          have hqt_31 := hnlatest_7l0.out
          obtain ⟨ab_t_31, ao_t_31, zt_31, At_31, z_t_31, ct_31_0⟩ := Go.Proofs.Ytfjcibkgbalkaaa.HelpInt.Ints.at_ (own_cells Olatest_7l0.out) (k := nt_31) (by omega)
          obtain rfl := Option.some.inj (gt_31.out.symm.trans z_t_31)
          simp only [Option.some.injEq, Addr.mk.injEq] at At_31
          obtain ⟨rfl, rfl, _⟩ := At_31
          clear z_t_31
          simp only [Nat.zero_add] at ct_31_0
          have b0t_31 : (0 : Int) ≤ (nt_31 : Int) := by omega
          have b1t_31 : (nt_31 : Int) < ((10 : Nat) : Int) := by omega
          have b2t_31 : ((nt_31 : Int)).toNat = nt_31 := by omega
          clear hqt_31
          have b3t_31 : nt_31 < 10 := by have h_ := lt_31; have hn_ := hnlatest_7l0.out; omega
          have b4t_31 : (nt_31 : Int) < (10 : Int) := by omega
          replace H := let_hid H
          obtain ⟨t_35, ht_35, H⟩ := H
          replace H := idx_hid H
          obtain ⟨nt_36, yt_36, et_36, lt_36, gt_36, H⟩ := H
          obtain rfl : nt_31 = nt_36 := by omega
          clear et_36
          obtain rfl := Option.some.inj (gt_31.out.symm.trans gt_36.out)
          clear gt_36 lt_36
          have b3t_36 : nt_31 < 10 := by have h_ := lt_31; have hn_ := hnlatest_7l0.out; omega
          have b4t_36 : (nt_31 : Int) < (10 : Int) := by omega
          refine wp_region_still_tail 10 (by kernel_rfl) (by kernel_rfl) ?_
          simp only [List.take_succ_cons, List.take_zero, List.drop_succ_cons, List.drop_zero]
          change wpStill _ _ Y7.drew _ _ _
          rw [hZ8]
          repeat still_step
          refine wpStill_nil ?_
          change wpList _ _ _ _ _ Y7.drew
          rw [hZ8]
          clear hZ8
          replace H := let_hid H
          obtain ⟨l37_37, hl37_37, H⟩ := H
          try simp only [Int.toNat_natCast] at hl37_37
          obtain ⟨wl37_37, hwl37_37⟩ : ∃ x, (Z8).setCell ⟨wt_1.heap.size, nt_31, none⟩ (.int .i64 t_35) = x := ⟨_, rfl⟩
          have z0l37_37 := Olatest_7l0.out.frozenAt (nt_31)
          have Sl37_37 := Lib.hid (own_stores [(nt_31, .int .i64 t_35)] Olatest_7l0.out)
          have nl37_37 : Hid (l37_37.length = 10) := Lib.hid (by rw [← hl37_37, List.length_set]; exact hnlatest_7l0.out)
          have Pl37_37 : Hid (wl37_37.ownsRow w.heap.size 92 1 (.slice (some ⟨wt_1.heap.size, 0, none⟩) 10 10) 10 (Go.Proofs.Ytfjcibkgbalkaaa.HelpInt.iv l37_37)) := Lib.hid (by have e_ : ([(nt_31, .int .i64 t_35)] : List (Nat × Value)).foldl (fun xs p => xs.set p.1 p.2) (Go.Proofs.Ytfjcibkgbalkaaa.HelpInt.iv latest_7l0) = (Go.Proofs.Ytfjcibkgbalkaaa.HelpInt.iv l37_37) := (by rw [← hl37_37]; first | done | simp [Go.Proofs.Ytfjcibkgbalkaaa.HelpInt.iv, List.map_set]); rw [← hwl37_37, ← e_]; exact Sl37_37.out.1)
          have Gl37_37 : Hid (Z8.grownBy wl37_37 (Value.slice (some ⟨wt_1.heap.size, 0, none⟩) 10 10).ownBlock) := Lib.hid (by rw [← hwl37_37]; exact Sl37_37.out.2)
          have HBwl37_37 := Lib.hid (HBZ8.out.grown Gl37_37.out HBZ8.out.size (fun q hq => (Olatest_7l0.out.lt q hq).1))
          have hhl37_37 := Lib.hid hl37_37
          clear hl37_37 Sl37_37
          have kt_0_0__772 := cell_other kt_0_0__758 Gl37_37.out Dlatest_7l0_t_0.out
          have kt_0_1__773 := cell_other kt_0_1__759 Gl37_37.out Dlatest_7l0_t_0.out
          have kt_0_2__774 := cell_other kt_0_2__760 Gl37_37.out Dlatest_7l0_t_0.out
          have kt_0_3__775 := cell_other kt_0_3__761 Gl37_37.out Dlatest_7l0_t_0.out
          have kt_0_4__776 := cell_other kt_0_4__762 Gl37_37.out Dlatest_7l0_t_0.out
          have kt_0_5__777 := cell_other kt_0_5__763 Gl37_37.out Dlatest_7l0_t_0.out
          have kt_0_6__778 := cell_other kt_0_6__764 Gl37_37.out Dlatest_7l0_t_0.out
          have kt_0_7__779 := cell_other kt_0_7__765 Gl37_37.out Dlatest_7l0_t_0.out
          have kt_0_8__780 := cell_other kt_0_8__766 Gl37_37.out Dlatest_7l0_t_0.out
          have kt_0_9__781 := cell_other kt_0_9__767 Gl37_37.out Dlatest_7l0_t_0.out
          have ct_16_0__782 := cell_other ct_16_0__768 Gl37_37.out (apart_old Olatest_7l0.out ltt_16)
          have ct_16_1__783 := cell_other ct_16_1__769 Gl37_37.out (apart_old Olatest_7l0.out ltt_16)
          have ct_16_2__784 := cell_other ct_16_2__770 Gl37_37.out (apart_old Olatest_7l0.out ltt_16)
          have ct_16_3__785 := cell_other ct_16_3__771 Gl37_37.out (apart_old Olatest_7l0.out ltt_16)
          have kx_18_0__786 := cell_other kx_18_0 Gl37_37.out (Apart.symm Dx_18_latest_7l0.out)
          have kx_18_1__787 := cell_other kx_18_1 Gl37_37.out (Apart.symm Dx_18_latest_7l0.out)
          have kx_18_2__788 := cell_other kx_18_2 Gl37_37.out (Apart.symm Dx_18_latest_7l0.out)
          have kx_18_3__789 := cell_other kx_18_3 Gl37_37.out (Apart.symm Dx_18_latest_7l0.out)
          replace Ot_0 := Lib.hid (own_other Ot_0.out Gl37_37.out Dlatest_7l0_t_0.out)
          clear Olatest_7l0 Gl37_37
          replace H := let_hid H
          obtain ⟨t_39, ht_39, H⟩ := H
          replace H := app_hid H
          go_wp2_with fail
          clear z0l37_37 kt_0_0__758 kt_0_1__759 kt_0_2__760 kt_0_3__761 kt_0_4__762 kt_0_5__763 kt_0_6__764 kt_0_7__765 kt_0_8__766 kt_0_9__767 ct_16_0__768 ct_16_1__769 ct_16_2__770 ct_16_3__771 kx_18_0 kx_18_1 kx_18_2 kx_18_3 ct_24_0 ct_31_0
          go_roundg m0
          case measure => omega
          case rel => exact ⟨_, _, rfl, H, HBwl37_37, kt_0_0__772, kt_0_1__773, kt_0_2__774, kt_0_3__775, kt_0_4__776, kt_0_5__777, kt_0_6__778, kt_0_7__779, kt_0_8__780, kt_0_9__781, Ot_0, Pl37_37, Lib.hid (nl37_37.out), Lib.hid Dlatest_7l0_t_0.out⟩
end Go.Proofs.Ytfjcibkgbalkaaa.GiLatestMinutes

/- loop.example/g01062/impl.canTake as a plain function, and the contract of the program's: where the plain one has an answer, the program has it. Conditions: slices read as lists. -/
namespace Go.Proofs.Ytfjcibkgbalkaaa.GiCanTake
set_option linter.unusedVariables false
set_option linter.unusedSimpArgs false
open Go.RowKit
open Go.Proofs.Ytfjcibkgbalkaaa.Rowed Go.Proofs.Ytfjcibkgbalkaaa.Turn Go.Proofs.Ytfjcibkgbalkaaa.Aid Go.Proofs.Ytfjcibkgbalkaaa.GoP Go.Proofs.Ytfjcibkgbalkaaa.GoM

def P (x : Go.Proofs.Ytfjcibkgbalkaaa.PMail.Mail) (office : Int) (minute : Int) : Option (Bool) :=
  unMail x fun (x_leave : Int) (x_from_ : Int) (x_to_ : Int) (x_arrive : Int) =>
  letK (x_from_ == office) fun (t_5 : Bool) =>
  joinK (fun (t_11 : Bool) =>
  some t_11) fun jt_11 => iteK t_5 (letK (decide (minute ≤ x_leave)) fun (t_10 : Bool) =>
  appK jt_11 t_10) (appK jt_11 false)

set_option maxRecDepth 100000 in
set_option maxHeartbeats 2000000 in
theorem C (x : Go.Proofs.Ytfjcibkgbalkaaa.PMail.Mail) (office : Int) (minute : Int)   (w : World)   {r : Bool} (H : Hid (P x office minute = some r)) :
    Calls Try.prog 101 #[x.val, .int .i64 office, .int .i64 minute] w (Gives (.bool r) w) := by
  have HB := Lib.hid (Below.refl w.heap.size w)
  unfold P at H
  obtain ⟨x_leave, x_from_, x_to_, x_arrive⟩ := x
  replace H := unMail_hid H
  unfold Go.Proofs.Ytfjcibkgbalkaaa.PMail.Mail.val
  go_enter Try.func101, Try.ntmps101
  obtain ⟨w_x_0, hw_x_0⟩ : ∃ x, w.alloc (.cells #[.int .i64 x_leave, .int .i64 x_from_, .int .i64 x_to_, .int .i64 x_arrive] 95) = x := ⟨_, rfl⟩
  have bw_x_0 : Below w.heap.size w w_x_0 := by rw [← hw_x_0]; exact (Below.refl _ _).alloc (Nat.le_refl _) _
  have HBw_x_0 := Lib.hid (Below.step HB.out bw_x_0)
  clear bw_x_0
  have kx_0_0 : w_x_0.cell? ⟨w.heap.size, 0, none⟩ = some (.int .i64 x_leave) := by rw [← hw_x_0]; exact box_new _ _ _ 0 _ rfl
  have kx_0_1 : w_x_0.cell? ⟨w.heap.size, 1, none⟩ = some (.int .i64 x_from_) := by rw [← hw_x_0]; exact box_new _ _ _ 1 _ rfl
  have kx_0_2 : w_x_0.cell? ⟨w.heap.size, 2, none⟩ = some (.int .i64 x_to_) := by rw [← hw_x_0]; exact box_new _ _ _ 2 _ rfl
  have kx_0_3 : w_x_0.cell? ⟨w.heap.size, 3, none⟩ = some (.int .i64 x_arrive) := by rw [← hw_x_0]; exact box_new _ _ _ 3 _ rfl
  replace H := let_hid H
  obtain ⟨t_5, ht_5, H⟩ := H
  replace H := join_hid H
  cases t_5 with
  | false =>
    replace H := ite_f H
    replace H := app_hid H
    obtain rfl := ret_hid H
    go_wp2_with fail
    go_ret
    exact ⟨rfl, HBw_x_0.out⟩
  | true =>
    replace H := ite_t H
    replace H := let_hid H
    obtain ⟨t_10, ht_10, H⟩ := H
    replace H := app_hid H
    obtain rfl := ret_hid H
    go_wp2_with fail
    go_ret
    exact ⟨rfl, HBw_x_0.out⟩
end Go.Proofs.Ytfjcibkgbalkaaa.GiCanTake

/- loop.example/g01062/impl.firstRoute as a plain function, and the contract of the program's: where the plain one has an answer, the program has it. Conditions: slices read as lists. -/
namespace Go.Proofs.Ytfjcibkgbalkaaa.GiFirstRoute
set_option linter.unusedVariables false
set_option linter.unusedSimpArgs false
open Go.RowKit
open Go.Proofs.Ytfjcibkgbalkaaa.Rowed Go.Proofs.Ytfjcibkgbalkaaa.Turn Go.Proofs.Ytfjcibkgbalkaaa.Aid Go.Proofs.Ytfjcibkgbalkaaa.GoP Go.Proofs.Ytfjcibkgbalkaaa.GoM

def l1 (list : (List Go.Proofs.Ytfjcibkgbalkaaa.PMail.Mail)) (vlatest_0 : (List Int)) (nx0 : (Int × Int × (List Int)) → Option ((List Int))) (k1 : Nat) (s : Int × Int × (List Int)) (nx1 bk1 : Int × Int × (List Int) → Option ((List Int))) : Option ((List Int)) :=
  unp3 s fun office_1l1 minute_2l1 route_9l1 =>
  Option.bind (idx list (k1 : Int)) fun (yt_9 : Go.Proofs.Ytfjcibkgbalkaaa.PMail.Mail) =>
  unMail yt_9 fun (t_9_leave : Int) (t_9_from_ : Int) (t_9_to_ : Int) (t_9_arrive : Int) =>
  Option.bind (Go.Proofs.Ytfjcibkgbalkaaa.GiCanTake.P (Go.Proofs.Ytfjcibkgbalkaaa.PMail.Mail.mk t_9_leave t_9_from_ t_9_to_ t_9_arrive) office_1l1 minute_2l1) fun (t_17 : Bool) =>
  joinK (fun (t_26 : Bool) =>
  iteK t_26
  (guardK (route_9l1.length ≤ 1099511627776) <|
  letK (route_9l1 ++ [(k1 : Int)]) fun (t_30 : (List Int)) =>
  appK nx0 (t_9_to_, t_9_arrive, t_30))
  (appK nx1 (office_1l1, minute_2l1, route_9l1))) fun jt_26 => iteK t_17 (Option.bind (idx vlatest_0 t_9_to_) fun (yt_23 : Int) =>
  letK (decide (t_9_arrive ≤ yt_23)) fun (t_25 : Bool) =>
  appK jt_26 t_25) (appK jt_26 false)

def e1  (s : Int × Int × (List Int)) : Option ((List Int)) :=
  unp3 s fun office_1l1 minute_2l1 route_9l1 =>
  some route_9l1

def l0 (list : (List Go.Proofs.Ytfjcibkgbalkaaa.PMail.Mail)) (vlatest_0 : (List Int)) (s : Int × Int × (List Int)) (nx0 bk0 : Int × Int × (List Int) → Option ((List Int))) : Option ((List Int)) :=
  unp3 s fun office_1l0 minute_2l0 route_9l0 =>
  cntK (l1 list vlatest_0 nx0) (list.length) 0 (office_1l0, minute_2l0, route_9l0) (e1 )

def e0  (s : Int × Int × (List Int)) : Option ((List Int)) :=
  unp3 s fun office_1l0 minute_2l0 route_9l0 =>
  some []

def P (fuel : Nat) (list : (List Go.Proofs.Ytfjcibkgbalkaaa.PMail.Mail)) (office : Int) (minute : Int) (latest : Go.Proofs.Ytfjcibkgbalkaaa.PIntA10.IntA10) : Option ((List Int)) :=
  unIntA10 latest fun (latest_x0 : Int) (latest_x1 : Int) (latest_x2 : Int) (latest_x3 : Int) (latest_x4 : Int) (latest_x5 : Int) (latest_x6 : Int) (latest_x7 : Int) (latest_x8 : Int) (latest_x9 : Int) =>
  letK ([latest_x0, latest_x1, latest_x2, latest_x3, latest_x4, latest_x5, latest_x6, latest_x7, latest_x8, latest_x9]) fun (vlatest_0 : (List Int)) =>
  loopK (l0 list vlatest_0) fuel (office, minute, ([] : List Int)) (e0 )

set_option maxRecDepth 100000 in
set_option maxHeartbeats 2000000 in
theorem C (fuel : Nat) (list : (List Go.Proofs.Ytfjcibkgbalkaaa.PMail.Mail)) (office : Int) (minute : Int) (latest : Go.Proofs.Ytfjcibkgbalkaaa.PIntA10.IntA10) (A0 : Option Addr) (c0 : Nat)  (w : World) (M0 : Hid (Cells w 4 A0 list.length (Go.Proofs.Ytfjcibkgbalkaaa.PMail.flat list))) (N0 : Hid (list.length ≤ 9223372036854775807))  {r : (List Int)} (H : Hid (P fuel list office minute latest = some r)) :
    Calls Try.prog 90 #[.slice A0 list.length c0, .int .i64 office, .int .i64 minute, latest.val] w (fun e w' => ∃ A_r c_r, e = .returned (.slice A_r r.length c_r) ∧ w'.ownsRow w.heap.size 3 1 (.slice A_r r.length c_r) r.length (Go.Proofs.Ytfjcibkgbalkaaa.HelpInt.iv r) ∧ Below w.heap.size w w') := by
  have HB := Lib.hid (Below.refl w.heap.size w)
  unfold P at H
  obtain ⟨latest_x0, latest_x1, latest_x2, latest_x3, latest_x4, latest_x5, latest_x6, latest_x7, latest_x8, latest_x9⟩ := latest
  replace H := unIntA10_hid H
  unfold Go.Proofs.Ytfjcibkgbalkaaa.PIntA10.IntA10.val
  have N0o := N0.out
  obtain ⟨i0_3, hi_3, hz0_3, hz1_3, hz2_3⟩ := Aid.info_parts (P := Try.prog) (T := 3) (z := .int .i64 0) (s := 1) (b := 8) (by kernel_rfl)
  go_enter Try.func90, Try.ntmps90
  replace H := let_hid H
  obtain ⟨vlatest_0, hvlatest_0, H⟩ := H
  obtain ⟨w_latest_0, hw_latest_0⟩ : ∃ x, w.alloc (.cells #[.int .i64 latest_x0, .int .i64 latest_x1, .int .i64 latest_x2, .int .i64 latest_x3, .int .i64 latest_x4, .int .i64 latest_x5, .int .i64 latest_x6, .int .i64 latest_x7, .int .i64 latest_x8, .int .i64 latest_x9] 92) = x := ⟨_, rfl⟩
  have bw_latest_0 : Below w.heap.size w w_latest_0 := by rw [← hw_latest_0]; exact (Below.refl _ _).alloc (Nat.le_refl _) _
  have hs_latest_0 := HB.out.size
  have nlatest_0 : vlatest_0.length = 10 := by rw [← hvlatest_0]; rfl
  have Olatest_0 : Hid (w_latest_0.ownsRow w.heap.size 92 1 (.slice (some ⟨w.heap.size, 0, none⟩) 10 10) 10 (Go.Proofs.Ytfjcibkgbalkaaa.HelpInt.iv vlatest_0)) := by
    rw [← hw_latest_0, ← hvlatest_0]
    have e_ : ([.int .i64 latest_x0, .int .i64 latest_x1, .int .i64 latest_x2, .int .i64 latest_x3, .int .i64 latest_x4, .int .i64 latest_x5, .int .i64 latest_x6, .int .i64 latest_x7, .int .i64 latest_x8, .int .i64 latest_x9] : List Value) = Go.Proofs.Ytfjcibkgbalkaaa.HelpInt.iv [latest_x0, latest_x1, latest_x2, latest_x3, latest_x4, latest_x5, latest_x6, latest_x7, latest_x8, latest_x9] := rfl
    exact Lib.hid (own_laid (n := 10) hs_latest_0 e_ rfl (by unfold maxLen; omega))
  clear hs_latest_0
  have hhlatest_0 := Lib.hid hvlatest_0
  clear hvlatest_0
  replace nlatest_0 := Lib.hid nlatest_0
  have HBw_latest_0 := Lib.hid (Below.step HB.out bw_latest_0)
  clear bw_latest_0
  go_wp2_with fail
  refine Go.Proofs.Ytfjcibkgbalkaaa.GoA.wp_scope_goto (l := 0) rfl ?_
  intro Kg_ hKg_
  obtain ⟨w_t_2, hw_t_2⟩ : ∃ x, w_latest_0.alloc (.cells #[] 3) = x := ⟨_, rfl⟩
  have bw_t_2 : Below w_latest_0.heap.size w_latest_0 w_t_2 := by rw [← hw_t_2]; exact (Below.refl _ _).alloc (Nat.le_refl _) _
  have Ot_2 : Hid (w_t_2.ownsRow w.heap.size 3 1 (.slice (some ⟨w_latest_0.heap.size, 0, none⟩) 0 0) 0 []) := Lib.hid (by rw [← hw_t_2]; exact own_empty HBw_latest_0.out.size)
  have Dt_2_latest_0 := Lib.hid (apart_fresh Olatest_0.out)
  have HBw_t_2 := Lib.hid (Below.step HBw_latest_0.out bw_t_2)
  replace Olatest_0 := Lib.hid (own_below Olatest_0.out bw_t_2)
  clear bw_t_2
  go_wp2_with fail
  try refine hKg_ _ _ ?_
  refine Go.Proofs.Ytfjcibkgbalkaaa.GoA.jumps_intro [false, true, true, false, false, false, false, false, true, true, true, true, false, true, true, true, true, true, true, true, true, true, true, true, true, true, true, true, true, true, true, true, true, true, true, true, true, true, true, true, true, true, true] fuel (fun m_ u_ wr => (fun m_ v1_ v2_ v9_ wr => ∃ (office_1l0 : Int) (minute_2l0 : Int) (route_9l0 : (List Int)) (Aroute_9l0 : Option Addr) (croute_9l0 : Nat), v1_ = .int .i64 office_1l0 ∧ v2_ = .int .i64 minute_2l0 ∧ v9_ = .slice Aroute_9l0 route_9l0.length croute_9l0 ∧ Hid (loopK (l0 list vlatest_0) m_ (office_1l0, minute_2l0, route_9l0) (e0 ) = some r) ∧ Hid (Below w.heap.size w wr) ∧ Hid (wr.ownsRow w.heap.size 3 1 (.slice Aroute_9l0 route_9l0.length croute_9l0) route_9l0.length (Go.Proofs.Ytfjcibkgbalkaaa.HelpInt.iv route_9l0)) ∧ Hid (wr.ownsRow w.heap.size 92 1 (.slice (some ⟨w.heap.size, 0, none⟩) 10 10) 10 (Go.Proofs.Ytfjcibkgbalkaaa.HelpInt.iv vlatest_0)) ∧ Hid (Apart Aroute_9l0 (some ⟨w.heap.size, 0, none⟩))) m_ (u_ 1) (u_ 2) (u_ 9) wr) ?atStart ?round
  case atStart => exact ⟨_, _, _, _, _, rfl, rfl, rfl, H, HBw_t_2, Ot_2, Olatest_0, Lib.hid Dt_2_latest_0.out⟩
  case round =>
    intro gk ug_ wg_ hrel Jg_ hJg_
    obtain ⟨office_1l0, minute_2l0, route_9l0, Aroute_9l0, croute_9l0, eg1_, eg2_, eg9_, H, HBwr0, Oroute_9l0, Olatest_0, Droute_9l0_latest_0⟩ := hrel
    rename World => wr0
    simp only [Go.Proofs.Ytfjcibkgbalkaaa.GoA.over, Nat.reduceAdd, eg1_, eg2_, eg9_]
    clear eg1_ eg2_ eg9_
    cases gk with
    | zero => exact (loop_zero H).elim
    | succ m0 =>
      replace H := loop_succ H
      unfold l0 at H
      replace H := unp3_hid H
      go_wp2_with fail
      go_loopg [15, 1, 2, 9] (list.length) (fun m_ v15_ v1_ v2_ v9_ wr => ∃ (k1 : Nat) (office_1l1 : Int) (minute_2l1 : Int) (route_9l1 : (List Int)) (Aroute_9l1 : Option Addr) (croute_9l1 : Nat), k1 + m_ = list.length ∧ v15_ = .int .i64 (k1 : Int) ∧ v1_ = .int .i64 office_1l1 ∧ v2_ = .int .i64 minute_2l1 ∧ v9_ = .slice Aroute_9l1 route_9l1.length croute_9l1 ∧ Hid (cntK (l1 list vlatest_0 (fun s' => loopK (l0 list vlatest_0) m0 s' (e0 ))) m_ k1 (office_1l1, minute_2l1, route_9l1) (e1 ) = some r) ∧ Hid (Below w.heap.size w wr) ∧ Hid (wr.ownsRow w.heap.size 3 1 (.slice Aroute_9l1 route_9l1.length croute_9l1) route_9l1.length (Go.Proofs.Ytfjcibkgbalkaaa.HelpInt.iv route_9l1)) ∧ Hid (wr.ownsRow w.heap.size 92 1 (.slice (some ⟨w.heap.size, 0, none⟩) 10 10) 10 (Go.Proofs.Ytfjcibkgbalkaaa.HelpInt.iv vlatest_0)) ∧ Hid (Apart Aroute_9l1 (some ⟨w.heap.size, 0, none⟩)))
      case atStart => exact ⟨0, _, _, _, _, _, by omega, rfl, rfl, rfl, rfl, H, HBwr0, Oroute_9l0, Olatest_0, Lib.hid Droute_9l0_latest_0.out⟩
      case round =>
        obtain ⟨k1, office_1l1, minute_2l1, route_9l1, Aroute_9l1, croute_9l1, hkm1, rfl, rfl, rfl, rfl, H, HBwr1, Oroute_9l1, Olatest_0, Droute_9l1_latest_0⟩ := hrel
        rename World => wr1
        cases gk with
        | zero =>
          obtain rfl : k1 = list.length := by omega
          have hc1 : decide (((list.length : Nat) : Int) < ((list.length : Nat) : Int)) = false := by simp
          replace H := cnt_zero H
          unfold e1 at H
          replace H := unp3_hid H
          obtain rfl := ret_hid H
          go_wp2_with fail
          try simp only [Exit.noGoto, Exit.jump]
          go_wp2_with fail
          go_ret
          exact ⟨Aroute_9l1, croute_9l1, rfl, Oroute_9l1.out, HBwr1.out⟩
        | succ m1 =>
          have hlt1 : k1 < list.length := by omega
          have hc1 : decide ((k1 : Int) < ((list.length : Nat) : Int)) = true := by simp; omega
          replace H := cnt_succ H
          unfold l1 at H
          replace H := unp3_hid H
          replace H := idx_hid H
          obtain ⟨nt_9, yt_9, et_9, lt_9, gt_9, H⟩ := H
          obtain rfl : k1 = nt_9 := by omega
          clear et_9
          obtain ⟨t_9_leave, t_9_from_, t_9_to_, t_9_arrive⟩ := yt_9
          replace H := unMail_hid H
          obtain ⟨ab_t_9, ao_t_9, zt_9, At_9, z_t_9, ct_9_0, ct_9_1, ct_9_2, ct_9_3⟩ := Go.Proofs.Ytfjcibkgbalkaaa.OMail.at_ M0.out lt_9
          obtain rfl := Option.some.inj (gt_9.out.symm.trans z_t_9)
          subst At_9
          have ltt_9 := cell_lt ct_9_0
          replace ct_9_0 := cell_below HBwr1.out ct_9_0
          replace ct_9_1 := cell_below HBwr1.out ct_9_1
          replace ct_9_2 := cell_below HBwr1.out ct_9_2
          replace ct_9_3 := cell_below HBwr1.out ct_9_3
          clear z_t_9
          have b0t_9 : (0 : Int) ≤ (k1 : Int) := by omega
          have b1t_9 : (k1 : Int) < ((list.length : Nat) : Int) := by omega
          have b2t_9 : ((k1 : Int)).toNat = k1 := by omega
          obtain ⟨w_x_11, hw_x_11⟩ : ∃ x, wr1.alloc (.cells #[.int .i64 t_9_leave, .int .i64 t_9_from_, .int .i64 t_9_to_, .int .i64 t_9_arrive] 95) = x := ⟨_, rfl⟩
          have bw_x_11 : Below wr1.heap.size wr1 w_x_11 := by rw [← hw_x_11]; exact (Below.refl _ _).alloc (Nat.le_refl _) _
          have Dx_11_latest_0 := Lib.hid (apart_fresh Olatest_0.out)
          have Dx_11_route_9l1 := Lib.hid (apart_fresh Oroute_9l1.out)
          have HBw_x_11 := Lib.hid (Below.step HBwr1.out bw_x_11)
          have ct_9_0__790 := cell_below bw_x_11 ct_9_0
          have ct_9_1__791 := cell_below bw_x_11 ct_9_1
          have ct_9_2__792 := cell_below bw_x_11 ct_9_2
          have ct_9_3__793 := cell_below bw_x_11 ct_9_3
          replace Olatest_0 := Lib.hid (own_below Olatest_0.out bw_x_11)
          replace Oroute_9l1 := Lib.hid (own_below Oroute_9l1.out bw_x_11)
          clear bw_x_11
          have kx_11_0 : w_x_11.cell? ⟨wr1.heap.size, 0, none⟩ = some (.int .i64 t_9_leave) := by rw [← hw_x_11]; exact box_new _ _ _ 0 _ rfl
          have kx_11_1 : w_x_11.cell? ⟨wr1.heap.size, 1, none⟩ = some (.int .i64 t_9_from_) := by rw [← hw_x_11]; exact box_new _ _ _ 1 _ rfl
          have kx_11_2 : w_x_11.cell? ⟨wr1.heap.size, 2, none⟩ = some (.int .i64 t_9_to_) := by rw [← hw_x_11]; exact box_new _ _ _ 2 _ rfl
          have kx_11_3 : w_x_11.cell? ⟨wr1.heap.size, 3, none⟩ = some (.int .i64 t_9_arrive) := by rw [← hw_x_11]; exact box_new _ _ _ 3 _ rfl
          go_wp2_with fail
          clear ct_9_0 ct_9_1 ct_9_2 ct_9_3
          have Hct_9_0__790 := Lib.hid ct_9_0__790
          replace ct_9_0__790 := cell_regrown ct_9_0__790
          have Hct_9_1__791 := Lib.hid ct_9_1__791
          replace ct_9_1__791 := cell_regrown ct_9_1__791
          have Hct_9_2__792 := Lib.hid ct_9_2__792
          replace ct_9_2__792 := cell_regrown ct_9_2__792
          have Hct_9_3__793 := Lib.hid ct_9_3__793
          replace ct_9_3__793 := cell_regrown ct_9_3__793
          have Hkx_11_0 := Lib.hid kx_11_0
          replace kx_11_0 := cell_regrown kx_11_0
          have Hkx_11_1 := Lib.hid kx_11_1
          replace kx_11_1 := cell_regrown kx_11_1
          have Hkx_11_2 := Lib.hid kx_11_2
          replace kx_11_2 := cell_regrown kx_11_2
          have Hkx_11_3 := Lib.hid kx_11_3
          replace kx_11_3 := cell_regrown kx_11_3
          replace H := bind_hid H
          obtain ⟨t_17, qt_17, H⟩ := H
          have nt_17 : ∀ d os, Calls Try.prog 101 #[.agg #[.int .i64 t_9_leave, .int .i64 t_9_from_, .int .i64 t_9_to_, .int .i64 t_9_arrive], .int .i64 office_1l1, .int .i64 minute_2l1] (Go.Sort.grow (redrawn w_x_11 d) os) fun e w'' => e = .returned (.bool t_17) ∧ ∃ p : Regrown, w'' = Go.Sort.grow (redrawn w_x_11 p.d) p.os := fun d os => Calls.regrown_of (Go.Proofs.Ytfjcibkgbalkaaa.GiCanTake.C ((Go.Proofs.Ytfjcibkgbalkaaa.PMail.Mail.mk t_9_leave t_9_from_ t_9_to_ t_9_arrive)) (office_1l1) (minute_2l1)  _    qt_17)
          replace H := join_hid H
          cases t_17 with
          | false =>
            replace H := ite_f H
            replace H := app_hid H
            refine wp_region_quiet_below (by kernel_rfl) (by kernel_rfl) ?_
            repeat (go_big_quiet_step (first | (go_at_call 101; exact nt_17 _ _)))
            refine wpQuiet_nil ?_
            intro Y5 hY5
            replace hY5 := below_class hY5
            clear nt_17
            replace ct_9_0__790 := Hct_9_0__790.out
            clear Hct_9_0__790
            replace ct_9_1__791 := Hct_9_1__791.out
            clear Hct_9_1__791
            replace ct_9_2__792 := Hct_9_2__792.out
            clear Hct_9_2__792
            replace ct_9_3__793 := Hct_9_3__793.out
            clear Hct_9_3__793
            replace kx_11_0 := Hkx_11_0.out
            clear Hkx_11_0
            replace kx_11_1 := Hkx_11_1.out
            clear Hkx_11_1
            replace kx_11_2 := Hkx_11_2.out
            clear Hkx_11_2
            replace kx_11_3 := Hkx_11_3.out
            clear Hkx_11_3
            have HBY5 := Lib.hid (Below.step HBw_x_11.out hY5)
            replace ct_9_0__790 := cell_below hY5 ct_9_0__790
            replace ct_9_1__791 := cell_below hY5 ct_9_1__791
            replace ct_9_2__792 := cell_below hY5 ct_9_2__792
            replace ct_9_3__793 := cell_below hY5 ct_9_3__793
            replace kx_11_0 := cell_below hY5 kx_11_0
            replace kx_11_1 := cell_below hY5 kx_11_1
            replace kx_11_2 := cell_below hY5 kx_11_2
            replace kx_11_3 := cell_below hY5 kx_11_3
            replace Olatest_0 := Lib.hid (own_below Olatest_0.out hY5)
            replace Oroute_9l1 := Lib.hid (own_below Oroute_9l1.out hY5)
            clear hY5
            replace H := ite_f H
            replace H := app_hid H
            go_wp2_with fail
            go_roundg m1
            case measure => omega
            case rel => exact ⟨k1 + 1, _, _, _, _, _, by omega, by go_num, rfl, rfl, rfl, H, HBY5, Oroute_9l1, Olatest_0, Lib.hid Droute_9l1_latest_0.out⟩
          | true =>
            replace H := ite_t H
            replace H := idx_hid H
            obtain ⟨nt_23, yt_23, et_23, lt_23, gt_23, H⟩ := H
            subst et_23
            have hqt_23 := nlatest_0.out
            obtain ⟨ab_t_23, ao_t_23, zt_23, At_23, z_t_23, ct_23_0⟩ := Go.Proofs.Ytfjcibkgbalkaaa.HelpInt.Ints.at_ (own_cells Olatest_0.out) (k := nt_23) (by omega)
            obtain rfl := Option.some.inj (gt_23.out.symm.trans z_t_23)
            simp only [Option.some.injEq, Addr.mk.injEq] at At_23
            obtain ⟨rfl, rfl, _⟩ := At_23
            clear z_t_23
            simp only [Nat.zero_add] at ct_23_0
            have b0t_23 : (0 : Int) ≤ (nt_23 : Int) := by omega
            have b1t_23 : (nt_23 : Int) < ((10 : Nat) : Int) := by omega
            have b2t_23 : ((nt_23 : Int)).toNat = nt_23 := by omega
            clear hqt_23
            have Hct_23_0 := Lib.hid ct_23_0
            replace ct_23_0 := cell_regrown ct_23_0
            have b3t_23 : nt_23 < 10 := by have h_ := lt_23; have hn_ := nlatest_0.out; omega
            have b4t_23 : (nt_23 : Int) < (10 : Int) := by omega
            replace H := let_hid H
            obtain ⟨t_25, ht_25, H⟩ := H
            replace H := app_hid H
            refine wp_region_quiet_below (by kernel_rfl) (by kernel_rfl) ?_
            repeat (go_big_quiet_step (first | (go_at_call 101; exact nt_17 _ _)))
            refine wpQuiet_nil ?_
            intro Y5 hY5
            replace hY5 := below_class hY5
            clear nt_17
            replace ct_9_0__790 := Hct_9_0__790.out
            clear Hct_9_0__790
            replace ct_9_1__791 := Hct_9_1__791.out
            clear Hct_9_1__791
            replace ct_9_2__792 := Hct_9_2__792.out
            clear Hct_9_2__792
            replace ct_9_3__793 := Hct_9_3__793.out
            clear Hct_9_3__793
            replace kx_11_0 := Hkx_11_0.out
            clear Hkx_11_0
            replace kx_11_1 := Hkx_11_1.out
            clear Hkx_11_1
            replace kx_11_2 := Hkx_11_2.out
            clear Hkx_11_2
            replace kx_11_3 := Hkx_11_3.out
            clear Hkx_11_3
            replace ct_23_0 := Hct_23_0.out
            clear Hct_23_0
            have HBY5 := Lib.hid (Below.step HBw_x_11.out hY5)
            replace ct_9_0__790 := cell_below hY5 ct_9_0__790
            replace ct_9_1__791 := cell_below hY5 ct_9_1__791
            replace ct_9_2__792 := cell_below hY5 ct_9_2__792
            replace ct_9_3__793 := cell_below hY5 ct_9_3__793
            replace kx_11_0 := cell_below hY5 kx_11_0
            replace kx_11_1 := cell_below hY5 kx_11_1
            replace kx_11_2 := cell_below hY5 kx_11_2
            replace kx_11_3 := cell_below hY5 kx_11_3
            replace ct_23_0 := cell_below hY5 ct_23_0
            replace Olatest_0 := Lib.hid (own_below Olatest_0.out hY5)
            replace Oroute_9l1 := Lib.hid (own_below Oroute_9l1.out hY5)
            clear hY5
            cases t_25 with
            | false =>
              replace H := ite_f H
              replace H := app_hid H
              go_wp2_with fail
              go_roundg m1
              case measure => omega
              case rel => exact ⟨k1 + 1, _, _, _, _, _, by omega, by go_num, rfl, rfl, rfl, H, HBY5, Oroute_9l1, Olatest_0, Lib.hid Droute_9l1_latest_0.out⟩
            | true =>
              replace H := ite_t H
              obtain ⟨w_t_29, hw_t_29⟩ : ∃ x, Y5.alloc (.cells #[.int .i64 (k1 : Int)] 3) = x := ⟨_, rfl⟩
              have bw_t_29 : Below Y5.heap.size Y5 w_t_29 := by rw [← hw_t_29]; exact (Below.refl _ _).alloc (Nat.le_refl _) _
              have HBw_t_29 := Lib.hid (Below.step HBY5.out bw_t_29)
              have ct_9_0__794 := cell_below bw_t_29 ct_9_0__790
              have ct_9_1__795 := cell_below bw_t_29 ct_9_1__791
              have ct_9_2__796 := cell_below bw_t_29 ct_9_2__792
              have ct_9_3__797 := cell_below bw_t_29 ct_9_3__793
              have kx_11_0__798 := cell_below bw_t_29 kx_11_0
              have kx_11_1__799 := cell_below bw_t_29 kx_11_1
              have kx_11_2__800 := cell_below bw_t_29 kx_11_2
              have kx_11_3__801 := cell_below bw_t_29 kx_11_3
              have ct_23_0__802 := cell_below bw_t_29 ct_23_0
              replace Olatest_0 := Lib.hid (own_below Olatest_0.out bw_t_29)
              replace Oroute_9l1 := Lib.hid (own_below Oroute_9l1.out bw_t_29)
              clear bw_t_29
              replace H := guard_hid H
              obtain ⟨hlt_30, H⟩ := H
              replace H := let_hid H
              obtain ⟨t_30, ht_30, H⟩ := H
              have hht_30 := Lib.hid ht_30
              clear ht_30
              have hst_30 := HBw_t_29.out.size
              go_wp2_with (at_builtin; refine wpList_append_own_at _ rfl _ _ 35 rfl w.heap.size 3 i0_3 (.int .i64 0) 1 8 Try.underlying35 hi_3 hz0_3 hz1_3 hz2_3 rfl (by decide) _ _ _ rfl Oroute_9l1.out ⟨Y5.heap.size, 0, none⟩ 1 1 [.int .i64 (k1 : Int)] rfl rfl (news_new hw_t_29) (one_cells rfl) (by unfold maxLen; omega) (by omega) hst_30 ?_; intro vt_30 wt_30 ot_30 gt_30 zt_30 yt_30; clear zt_30; obtain ⟨qt_30, ct_30, rfl, pt_30⟩ := own_push hht_30.out (Go.Proofs.Ytfjcibkgbalkaaa.HelpInt.iv_snoc _ _) rfl ot_30; have Pt_30 := Lib.hid pt_30; have Yt_30 := Lib.hid yt_30; have Gt_30 := Lib.hid gt_30; clear ot_30 gt_30 pt_30 yt_30; refine stop_in ?_)
              refine stop_out ?_
              have HBwt_30 := Lib.hid (HBw_t_29.out.grown Gt_30.out hst_30 (fun q hq => (Oroute_9l1.out.lt q hq).1))
              clear hst_30
              have Dt_30_latest_0 : Hid (Apart (some ⟨qt_30, 0, none⟩) _) := Lib.hid (apart_app Droute_9l1_latest_0.out (fun a_ ha_ => (own_lt Olatest_0.out a_ ha_).2) Yt_30.out)
              have Dt_30_x_11 : Hid (Apart (some ⟨qt_30, 0, none⟩) _) := Lib.hid (apart_app (Apart.symm Dx_11_route_9l1.out) (fun a_ ha_ => by cases ha_; exact cell_lt kx_11_0__798) Yt_30.out)
              replace ct_9_0__794 := cell_other ct_9_0__794 Gt_30.out (apart_old Oroute_9l1.out ltt_9)
              replace ct_9_1__795 := cell_other ct_9_1__795 Gt_30.out (apart_old Oroute_9l1.out ltt_9)
              replace ct_9_2__796 := cell_other ct_9_2__796 Gt_30.out (apart_old Oroute_9l1.out ltt_9)
              replace ct_9_3__797 := cell_other ct_9_3__797 Gt_30.out (apart_old Oroute_9l1.out ltt_9)
              replace kx_11_0__798 := cell_other kx_11_0__798 Gt_30.out (Apart.symm Dx_11_route_9l1.out)
              replace kx_11_1__799 := cell_other kx_11_1__799 Gt_30.out (Apart.symm Dx_11_route_9l1.out)
              replace kx_11_2__800 := cell_other kx_11_2__800 Gt_30.out (Apart.symm Dx_11_route_9l1.out)
              replace kx_11_3__801 := cell_other kx_11_3__801 Gt_30.out (Apart.symm Dx_11_route_9l1.out)
              replace ct_23_0__802 := cell_other ct_23_0__802 Gt_30.out Droute_9l1_latest_0.out
              replace Olatest_0 := Lib.hid (own_other Olatest_0.out Gt_30.out Droute_9l1_latest_0.out)
              clear ct_9_0__790 ct_9_1__791 ct_9_2__792 ct_9_3__793 kx_11_0 kx_11_1 kx_11_2 kx_11_3 ct_23_0
              clear Oroute_9l1 Yt_30 Gt_30
              go_wp2_with fail
              have Hct_9_0__794 := Lib.hid ct_9_0__794
              replace ct_9_0__794 := cell_regrown ct_9_0__794
              have Hct_9_1__795 := Lib.hid ct_9_1__795
              replace ct_9_1__795 := cell_regrown ct_9_1__795
              have Hct_9_2__796 := Lib.hid ct_9_2__796
              replace ct_9_2__796 := cell_regrown ct_9_2__796
              have Hct_9_3__797 := Lib.hid ct_9_3__797
              replace ct_9_3__797 := cell_regrown ct_9_3__797
              have Hkx_11_0__798 := Lib.hid kx_11_0__798
              replace kx_11_0__798 := cell_regrown kx_11_0__798
              have Hkx_11_1__799 := Lib.hid kx_11_1__799
              replace kx_11_1__799 := cell_regrown kx_11_1__799
              have Hkx_11_2__800 := Lib.hid kx_11_2__800
              replace kx_11_2__800 := cell_regrown kx_11_2__800
              have Hkx_11_3__801 := Lib.hid kx_11_3__801
              replace kx_11_3__801 := cell_regrown kx_11_3__801
              have Hct_23_0__802 := Lib.hid ct_23_0__802
              replace ct_23_0__802 := cell_regrown ct_23_0__802
              refine wp_region_quiet_below (by kernel_rfl) (by kernel_rfl) ?_
              repeat (go_big_quiet_step (fail))
              refine wpQuiet_nil ?_
              intro Y7 hY7
              replace hY7 := below_class hY7
              replace ct_9_0__794 := Hct_9_0__794.out
              clear Hct_9_0__794
              replace ct_9_1__795 := Hct_9_1__795.out
              clear Hct_9_1__795
              replace ct_9_2__796 := Hct_9_2__796.out
              clear Hct_9_2__796
              replace ct_9_3__797 := Hct_9_3__797.out
              clear Hct_9_3__797
              replace kx_11_0__798 := Hkx_11_0__798.out
              clear Hkx_11_0__798
              replace kx_11_1__799 := Hkx_11_1__799.out
              clear Hkx_11_1__799
              replace kx_11_2__800 := Hkx_11_2__800.out
              clear Hkx_11_2__800
              replace kx_11_3__801 := Hkx_11_3__801.out
              clear Hkx_11_3__801
              replace ct_23_0__802 := Hct_23_0__802.out
              clear Hct_23_0__802
              have HBY7 := Lib.hid (Below.step HBwt_30.out hY7)
              replace ct_9_0__794 := cell_below hY7 ct_9_0__794
              replace ct_9_1__795 := cell_below hY7 ct_9_1__795
              replace ct_9_2__796 := cell_below hY7 ct_9_2__796
              replace ct_9_3__797 := cell_below hY7 ct_9_3__797
              replace kx_11_0__798 := cell_below hY7 kx_11_0__798
              replace kx_11_1__799 := cell_below hY7 kx_11_1__799
              replace kx_11_2__800 := cell_below hY7 kx_11_2__800
              replace kx_11_3__801 := cell_below hY7 kx_11_3__801
              replace ct_23_0__802 := cell_below hY7 ct_23_0__802
              replace Olatest_0 := Lib.hid (own_below Olatest_0.out hY7)
              replace Pt_30 := Lib.hid (own_below Pt_30.out hY7)
              clear hY7
              replace H := app_hid H
              go_wp2_with fail
              refine wp_goto ?_
              simp only [Exit.then, Exit.inBlock, Exit.jump, true_and]
              refine Go.Proofs.Ytfjcibkgbalkaaa.GoA.handed_goto hJg_ m0 ?measure rfl ?rel
              case measure => omega
              case rel => exact ⟨_, _, _, _, _, rfl, rfl, rfl, H, HBY7, Pt_30, Olatest_0, Lib.hid Dt_30_latest_0.out⟩
end Go.Proofs.Ytfjcibkgbalkaaa.GiFirstRoute

/- loop.example/g01062/impl.BestRoute as a plain function, and the contract of the program's: where the plain one has an answer, the program has it. Conditions: slices read as lists. -/
namespace Go.Proofs.Ytfjcibkgbalkaaa.GiBestRoute
set_option linter.unusedVariables false
set_option linter.unusedSimpArgs false
open Go.RowKit
open Go.Proofs.Ytfjcibkgbalkaaa.Rowed Go.Proofs.Ytfjcibkgbalkaaa.Turn Go.Proofs.Ytfjcibkgbalkaaa.Aid Go.Proofs.Ytfjcibkgbalkaaa.GoP Go.Proofs.Ytfjcibkgbalkaaa.GoM

def P (fuel : Nat) (list : (List Go.Proofs.Ytfjcibkgbalkaaa.PMail.Mail)) (from_1 : Int) (minute : Int) (to : Int) : Option ((List Int) × Bool) :=
  bind2 (Go.Proofs.Ytfjcibkgbalkaaa.GiEarliestAt.P list from_1 minute to) fun (t_6a : Int) (t_6b : Bool) =>
  letK (!t_6b) fun (t_13 : Bool) =>
  iteK t_13
  (some (([] : List Int), false))
  (Option.bind (Go.Proofs.Ytfjcibkgbalkaaa.GiLatestMinutes.P fuel list to t_6a) fun (t_23 : Go.Proofs.Ytfjcibkgbalkaaa.PIntA10.IntA10) =>
  unIntA10 t_23 fun (t_23_x0 : Int) (t_23_x1 : Int) (t_23_x2 : Int) (t_23_x3 : Int) (t_23_x4 : Int) (t_23_x5 : Int) (t_23_x6 : Int) (t_23_x7 : Int) (t_23_x8 : Int) (t_23_x9 : Int) =>
  Option.bind (Go.Proofs.Ytfjcibkgbalkaaa.GiFirstRoute.P fuel list from_1 minute (Go.Proofs.Ytfjcibkgbalkaaa.PIntA10.IntA10.mk t_23_x0 t_23_x1 t_23_x2 t_23_x3 t_23_x4 t_23_x5 t_23_x6 t_23_x7 t_23_x8 t_23_x9)) fun (t_24 : (List Int)) =>
  some (t_24, true))

set_option maxRecDepth 100000 in
set_option maxHeartbeats 2000000 in
theorem C (fuel : Nat) (list : (List Go.Proofs.Ytfjcibkgbalkaaa.PMail.Mail)) (from_1 : Int) (minute : Int) (to : Int) (A0 : Option Addr) (c0 : Nat)  (w : World) (M0 : Hid (Cells w 4 A0 list.length (Go.Proofs.Ytfjcibkgbalkaaa.PMail.flat list))) (N0 : Hid (list.length ≤ 9223372036854775807))  {r0 : (List Int)} {r1 : Bool} (H : Hid (P fuel list from_1 minute to = some (r0, r1))) :
    Calls Try.prog 32 #[.slice A0 list.length c0, .int .i64 from_1, .int .i64 minute, .int .i64 to] w (fun e w' => ∃ A_r0 c_r0, e = .returned (.tuple #[.slice A_r0 r0.length c_r0, .bool r1]) ∧ w'.ownsRow w.heap.size 3 1 (.slice A_r0 r0.length c_r0) r0.length (Go.Proofs.Ytfjcibkgbalkaaa.HelpInt.iv r0) ∧ Below w.heap.size w w') := by
  have HB := Lib.hid (Below.refl w.heap.size w)
  unfold P at H
  have N0o := N0.out
  go_enter Try.func32, Try.ntmps32
  replace H := bind2_hid H
  obtain ⟨t_6a, t_6b, qt_6, H⟩ := H
  go_wp2_with fail
  go_at_call 36
  refine (Go.Proofs.Ytfjcibkgbalkaaa.GiEarliestAt.C (list) (from_1) (minute) (to) A0 c0 _   (Lib.hid (Cells.below M0.out HB.out)) N0 qt_6).mono ?_
  rintro e_t_6 wt_6 ⟨rfl, bt_6⟩
  have HBwt_6 := Lib.hid (Below.step HB.out bt_6)
  clear bt_6
  cases t_6b with
  | false =>
    replace H := let_hid H
    obtain ⟨t_13, ht_13, H⟩ := H
    obtain rfl : t_13 = true := ht_13.symm
    replace H := ite_t H
    obtain ⟨w_t_14, hw_t_14⟩ : ∃ x, wt_6.alloc (.cells #[] 3) = x := ⟨_, rfl⟩
    have bw_t_14 : Below wt_6.heap.size wt_6 w_t_14 := by rw [← hw_t_14]; exact (Below.refl _ _).alloc (Nat.le_refl _) _
    have Ot_14 : Hid (w_t_14.ownsRow w.heap.size 3 1 (.slice (some ⟨wt_6.heap.size, 0, none⟩) 0 0) 0 []) := Lib.hid (by rw [← hw_t_14]; exact own_empty HBwt_6.out.size)
    have HBw_t_14 := Lib.hid (Below.step HBwt_6.out bw_t_14)
    clear bw_t_14
    cases ret_hid H
    go_wp2_with fail
    go_ret2
    exact ⟨(some ⟨wt_6.heap.size, 0, none⟩), 0, rfl, Ot_14.out, HBw_t_14.out⟩
  | true =>
    replace H := let_hid H
    obtain ⟨t_13, ht_13, H⟩ := H
    obtain rfl : t_13 = false := ht_13.symm
    replace H := ite_f H
    replace H := bind_hid H
    obtain ⟨t_23, qt_23, H⟩ := H
    obtain ⟨t_23_x0, t_23_x1, t_23_x2, t_23_x3, t_23_x4, t_23_x5, t_23_x6, t_23_x7, t_23_x8, t_23_x9⟩ := t_23
    replace H := unIntA10_hid H
    go_wp2_with fail
    go_at_call 91
    refine (Go.Proofs.Ytfjcibkgbalkaaa.GiLatestMinutes.C fuel (list) (to) (t_6a) A0 c0 _   (Lib.hid (Cells.below M0.out HBwt_6.out)) N0 qt_23).mono ?_
    rintro e_t_23 wt_23 ⟨rfl, bt_23⟩
    unfold Go.Proofs.Ytfjcibkgbalkaaa.PIntA10.IntA10.val
    have HBwt_23 := Lib.hid (Below.step HBwt_6.out bt_23)
    clear bt_23
    replace H := bind_hid H
    obtain ⟨t_24, qt_24, H⟩ := H
    go_wp2_with fail
    go_at_call 90
    refine (Go.Proofs.Ytfjcibkgbalkaaa.GiFirstRoute.C fuel (list) (from_1) (minute) ((Go.Proofs.Ytfjcibkgbalkaaa.PIntA10.IntA10.mk t_23_x0 t_23_x1 t_23_x2 t_23_x3 t_23_x4 t_23_x5 t_23_x6 t_23_x7 t_23_x8 t_23_x9)) A0 c0 _   (Lib.hid (Cells.below M0.out HBwt_23.out)) N0 qt_24).mono ?_
    rintro e_t_24 wt_24 ⟨At_24, ct_24, rfl, ot_24, bt_24⟩
    have Ot_24 := Lib.hid (own_lower ot_24 HBwt_23.out.size)
    clear ot_24
    have HBwt_24 := Lib.hid (Below.step HBwt_23.out bt_24)
    clear bt_24
    cases ret_hid H
    go_wp2_with fail
    go_ret2
    exact ⟨At_24, ct_24, rfl, Ot_24.out, HBwt_24.out⟩
end Go.Proofs.Ytfjcibkgbalkaaa.GiBestRoute

/- loop.example/g01062/laws.eqIntS as a plain function, and the contract of the program's: where the plain one has an answer, the program has it. Conditions: slices read as lists. -/
namespace Go.Proofs.Ytfjcibkgbalkaaa.GlEqIntS
set_option linter.unusedVariables false
set_option linter.unusedSimpArgs false
open Go.RowKit
open Go.Proofs.Ytfjcibkgbalkaaa.Rowed Go.Proofs.Ytfjcibkgbalkaaa.Turn Go.Proofs.Ytfjcibkgbalkaaa.Aid Go.Proofs.Ytfjcibkgbalkaaa.GoP Go.Proofs.Ytfjcibkgbalkaaa.GoM

def l0 (a : (List Int)) (b : (List Int)) (k0 : Nat) (s : Unit) (nx0 bk0 : Unit → Option (Bool)) : Option (Bool) :=
  
  Option.bind (idx a (k0 : Int)) fun (yt_14 : Int) =>
  Option.bind (idx b (k0 : Int)) fun (yt_18 : Int) =>
  letK (yt_14 != yt_18) fun (t_20 : Bool) =>
  iteK t_20
  (some false)
  (appK nx0 ())

def e0  (s : Unit) : Option (Bool) :=
  
  some true

def P (a : (List Int)) (b : (List Int)) : Option (Bool) :=
  letK ((a.length : Int) != (b.length : Int)) fun (t_5 : Bool) =>
  iteK t_5
  (some false)
  (cntK (l0 a b) (a.length) 0 () (e0 ))

set_option maxRecDepth 100000 in
set_option maxHeartbeats 2000000 in
theorem C (a : (List Int)) (b : (List Int)) (A0 : Option Addr) (c0 : Nat) (A1 : Option Addr) (c1 : Nat)  (w : World) (M0 : Hid (Cells w 1 A0 a.length (Go.Proofs.Ytfjcibkgbalkaaa.HelpInt.iv a))) (N0 : Hid (a.length ≤ 9223372036854775807)) (M1 : Hid (Cells w 1 A1 b.length (Go.Proofs.Ytfjcibkgbalkaaa.HelpInt.iv b))) (N1 : Hid (b.length ≤ 9223372036854775807))  {r : Bool} (H : Hid (P a b = some r)) :
    Calls Try.prog 51 #[.slice A0 a.length c0, .slice A1 b.length c1] w (Gives (.bool r) w) := by
  have HB := Lib.hid (Below.refl w.heap.size w)
  unfold P at H
  have N0o := N0.out
  have N1o := N1.out
  go_enter Try.func51, Try.ntmps51
  replace H := let_hid H
  obtain ⟨t_5, ht_5, H⟩ := H
  cases t_5 with
  | false =>
    have Hht_5 : Hid (a.length = b.length) := Lib.hid (by have := bne_eq_false_iff_eq.1 ht_5; omega)
    have nht_5 : (a.length == b.length) = true := beq_iff_eq.2 Hht_5.out
    replace H := ite_f H
    go_wp2_with fail
    go_loopg [5] (a.length) (fun m_ v5_ wr => ∃ (k0 : Nat) , k0 + m_ = a.length ∧ v5_ = .int .i64 (k0 : Int) ∧ Hid (cntK (l0 a b) m_ k0 () (e0 ) = some r) ∧ Hid (Below w.heap.size w wr))
    case atStart => exact ⟨0, by omega, rfl, H, HB⟩
    case round =>
      obtain ⟨k0, hkm0, rfl, H, HBwr0⟩ := hrel
      rename World => wr0
      cases gk with
      | zero =>
        obtain rfl : k0 = a.length := by omega
        have hc0 : decide (((a.length : Nat) : Int) < ((a.length : Nat) : Int)) = false := by simp
        replace H := cnt_zero H
        unfold e0 at H
        obtain rfl := ret_hid H
        go_wp2_with fail
        go_ret
        exact ⟨rfl, HBwr0.out⟩
      | succ m0 =>
        have hlt0 : k0 < a.length := by omega
        have hc0 : decide ((k0 : Int) < ((a.length : Nat) : Int)) = true := by simp; omega
        replace H := cnt_succ H
        unfold l0 at H
        go_wp2_with fail
        replace H := idx_hid H
        obtain ⟨nt_14, yt_14, et_14, lt_14, gt_14, H⟩ := H
        obtain rfl : k0 = nt_14 := by omega
        clear et_14
        obtain ⟨ab_t_14, ao_t_14, zt_14, At_14, z_t_14, ct_14_0⟩ := Go.Proofs.Ytfjcibkgbalkaaa.HelpInt.Ints.at_ M0.out lt_14
        obtain rfl := Option.some.inj (gt_14.out.symm.trans z_t_14)
        subst At_14
        have ltt_14 := cell_lt ct_14_0
        replace ct_14_0 := cell_below HBwr0.out ct_14_0
        clear z_t_14
        have b0t_14 : (0 : Int) ≤ (k0 : Int) := by omega
        have b1t_14 : (k0 : Int) < ((a.length : Nat) : Int) := by omega
        have b2t_14 : ((k0 : Int)).toNat = k0 := by omega
        have Hct_14_0 := Lib.hid ct_14_0
        replace ct_14_0 := cell_regrown ct_14_0
        replace H := idx_hid H
        obtain ⟨nt_18, yt_18, et_18, lt_18, gt_18, H⟩ := H
        obtain rfl : k0 = nt_18 := by omega
        clear et_18
        obtain ⟨ab_t_18, ao_t_18, zt_18, At_18, z_t_18, ct_18_0⟩ := Go.Proofs.Ytfjcibkgbalkaaa.HelpInt.Ints.at_ M1.out lt_18
        obtain rfl := Option.some.inj (gt_18.out.symm.trans z_t_18)
        subst At_18
        have ltt_18 := cell_lt ct_18_0
        replace ct_18_0 := cell_below HBwr0.out ct_18_0
        clear z_t_18
        have b0t_18 : (0 : Int) ≤ (k0 : Int) := by omega
        have b1t_18 : (k0 : Int) < ((b.length : Nat) : Int) := by omega
        have b2t_18 : ((k0 : Int)).toNat = k0 := by omega
        have Hct_18_0 := Lib.hid ct_18_0
        replace ct_18_0 := cell_regrown ct_18_0
        replace H := let_hid H
        obtain ⟨t_20, ht_20, H⟩ := H
        refine wp_region_quiet_below (by kernel_rfl) (by kernel_rfl) ?_
        repeat (go_big_quiet_step (fail))
        refine wpQuiet_nil ?_
        intro Y6 hY6
        replace hY6 := below_class hY6
        replace ct_14_0 := Hct_14_0.out
        clear Hct_14_0
        replace ct_18_0 := Hct_18_0.out
        clear Hct_18_0
        have HBY6 := Lib.hid (Below.step HBwr0.out hY6)
        replace ct_14_0 := cell_below hY6 ct_14_0
        replace ct_18_0 := cell_below hY6 ct_18_0
        clear hY6
        cases t_20 with
        | false =>
          replace H := ite_f H
          replace H := app_hid H
          go_wp2_with fail
          go_roundg m0
          case measure => omega
          case rel => exact ⟨k0 + 1, by omega, by go_num, H, HBY6⟩
        | true =>
          replace H := ite_t H
          obtain rfl := ret_hid H
          go_wp2_with fail
          go_ret
          exact ⟨rfl, HBY6.out⟩
  | true =>
    have nht_5 : ¬ (a.length = b.length) := by have := bne_iff_ne.1 ht_5; omega
    replace H := ite_t H
    obtain rfl := ret_hid H
    go_wp2_with fail
    go_ret
    exact ⟨rfl, HB.out⟩
end Go.Proofs.Ytfjcibkgbalkaaa.GlEqIntS

/- loop.example/g01062/laws.eqMail as a plain function, and the contract of the program's: where the plain one has an answer, the program has it. Conditions: slices read as lists. -/
namespace Go.Proofs.Ytfjcibkgbalkaaa.GlEqMail
set_option linter.unusedVariables false
set_option linter.unusedSimpArgs false
open Go.RowKit
open Go.Proofs.Ytfjcibkgbalkaaa.Rowed Go.Proofs.Ytfjcibkgbalkaaa.Turn Go.Proofs.Ytfjcibkgbalkaaa.Aid Go.Proofs.Ytfjcibkgbalkaaa.GoP Go.Proofs.Ytfjcibkgbalkaaa.GoM

def P (a : Go.Proofs.Ytfjcibkgbalkaaa.PMail.Mail) (b : Go.Proofs.Ytfjcibkgbalkaaa.PMail.Mail) : Option (Bool) :=
  unMail a fun (a_leave : Int) (a_from_ : Int) (a_to_ : Int) (a_arrive : Int) =>
  unMail b fun (b_leave : Int) (b_from_ : Int) (b_to_ : Int) (b_arrive : Int) =>
  letK (a_leave != b_leave) fun (t_7 : Bool) =>
  iteK t_7
  (some false)
  (letK (a_from_ != b_from_) fun (t_13 : Bool) =>
  iteK t_13
  (some false)
  (letK (a_to_ != b_to_) fun (t_19 : Bool) =>
  iteK t_19
  (some false)
  (letK (a_arrive != b_arrive) fun (t_25 : Bool) =>
  iteK t_25
  (some false)
  (some true))))

set_option maxRecDepth 100000 in
set_option maxHeartbeats 2000000 in
theorem C (a : Go.Proofs.Ytfjcibkgbalkaaa.PMail.Mail) (b : Go.Proofs.Ytfjcibkgbalkaaa.PMail.Mail)   (w : World)   {r : Bool} (H : Hid (P a b = some r)) :
    Calls Try.prog 107 #[a.val, b.val] w (Gives (.bool r) w) := by
  have HB := Lib.hid (Below.refl w.heap.size w)
  unfold P at H
  obtain ⟨a_leave, a_from_, a_to_, a_arrive⟩ := a
  replace H := unMail_hid H
  obtain ⟨b_leave, b_from_, b_to_, b_arrive⟩ := b
  replace H := unMail_hid H
  unfold Go.Proofs.Ytfjcibkgbalkaaa.PMail.Mail.val
  go_enter Try.func107, Try.ntmps107
  obtain ⟨w_a_0, hw_a_0⟩ : ∃ x, w.alloc (.cells #[.int .i64 a_leave, .int .i64 a_from_, .int .i64 a_to_, .int .i64 a_arrive] 95) = x := ⟨_, rfl⟩
  have bw_a_0 : Below w.heap.size w w_a_0 := by rw [← hw_a_0]; exact (Below.refl _ _).alloc (Nat.le_refl _) _
  have HBw_a_0 := Lib.hid (Below.step HB.out bw_a_0)
  clear bw_a_0
  have ka_0_0 : w_a_0.cell? ⟨w.heap.size, 0, none⟩ = some (.int .i64 a_leave) := by rw [← hw_a_0]; exact box_new _ _ _ 0 _ rfl
  have ka_0_1 : w_a_0.cell? ⟨w.heap.size, 1, none⟩ = some (.int .i64 a_from_) := by rw [← hw_a_0]; exact box_new _ _ _ 1 _ rfl
  have ka_0_2 : w_a_0.cell? ⟨w.heap.size, 2, none⟩ = some (.int .i64 a_to_) := by rw [← hw_a_0]; exact box_new _ _ _ 2 _ rfl
  have ka_0_3 : w_a_0.cell? ⟨w.heap.size, 3, none⟩ = some (.int .i64 a_arrive) := by rw [← hw_a_0]; exact box_new _ _ _ 3 _ rfl
  obtain ⟨w_b_1, hw_b_1⟩ : ∃ x, w_a_0.alloc (.cells #[.int .i64 b_leave, .int .i64 b_from_, .int .i64 b_to_, .int .i64 b_arrive] 95) = x := ⟨_, rfl⟩
  have bw_b_1 : Below w_a_0.heap.size w_a_0 w_b_1 := by rw [← hw_b_1]; exact (Below.refl _ _).alloc (Nat.le_refl _) _
  have HBw_b_1 := Lib.hid (Below.step HBw_a_0.out bw_b_1)
  have ka_0_0__304 := cell_below bw_b_1 ka_0_0
  have ka_0_1__305 := cell_below bw_b_1 ka_0_1
  have ka_0_2__306 := cell_below bw_b_1 ka_0_2
  have ka_0_3__307 := cell_below bw_b_1 ka_0_3
  clear bw_b_1
  have kb_1_0 : w_b_1.cell? ⟨w_a_0.heap.size, 0, none⟩ = some (.int .i64 b_leave) := by rw [← hw_b_1]; exact box_new _ _ _ 0 _ rfl
  have kb_1_1 : w_b_1.cell? ⟨w_a_0.heap.size, 1, none⟩ = some (.int .i64 b_from_) := by rw [← hw_b_1]; exact box_new _ _ _ 1 _ rfl
  have kb_1_2 : w_b_1.cell? ⟨w_a_0.heap.size, 2, none⟩ = some (.int .i64 b_to_) := by rw [← hw_b_1]; exact box_new _ _ _ 2 _ rfl
  have kb_1_3 : w_b_1.cell? ⟨w_a_0.heap.size, 3, none⟩ = some (.int .i64 b_arrive) := by rw [← hw_b_1]; exact box_new _ _ _ 3 _ rfl
  replace H := let_hid H
  obtain ⟨t_7, ht_7, H⟩ := H
  cases t_7 with
  | false =>
    replace H := ite_f H
    replace H := let_hid H
    obtain ⟨t_13, ht_13, H⟩ := H
    cases t_13 with
    | false =>
      replace H := ite_f H
      replace H := let_hid H
      obtain ⟨t_19, ht_19, H⟩ := H
      cases t_19 with
      | false =>
        replace H := ite_f H
        replace H := let_hid H
        obtain ⟨t_25, ht_25, H⟩ := H
        cases t_25 with
        | false =>
          replace H := ite_f H
          obtain rfl := ret_hid H
          go_wp2_with fail
          go_ret
          exact ⟨rfl, HBw_b_1.out⟩
        | true =>
          replace H := ite_t H
          obtain rfl := ret_hid H
          go_wp2_with fail
          go_ret
          exact ⟨rfl, HBw_b_1.out⟩
      | true =>
        replace H := ite_t H
        obtain rfl := ret_hid H
        go_wp2_with fail
        go_ret
        exact ⟨rfl, HBw_b_1.out⟩
    | true =>
      replace H := ite_t H
      obtain rfl := ret_hid H
      go_wp2_with fail
      go_ret
      exact ⟨rfl, HBw_b_1.out⟩
  | true =>
    replace H := ite_t H
    obtain rfl := ret_hid H
    go_wp2_with fail
    go_ret
    exact ⟨rfl, HBw_b_1.out⟩
end Go.Proofs.Ytfjcibkgbalkaaa.GlEqMail

/- loop.example/g01062/laws.eqMailS as a plain function, and the contract of the program's: where the plain one has an answer, the program has it. Conditions: slices read as lists. -/
namespace Go.Proofs.Ytfjcibkgbalkaaa.GlEqMailS
set_option linter.unusedVariables false
set_option linter.unusedSimpArgs false
open Go.RowKit
open Go.Proofs.Ytfjcibkgbalkaaa.Rowed Go.Proofs.Ytfjcibkgbalkaaa.Turn Go.Proofs.Ytfjcibkgbalkaaa.Aid Go.Proofs.Ytfjcibkgbalkaaa.GoP Go.Proofs.Ytfjcibkgbalkaaa.GoM

def l0 (a : (List Go.Proofs.Ytfjcibkgbalkaaa.PMail.Mail)) (b : (List Go.Proofs.Ytfjcibkgbalkaaa.PMail.Mail)) (k0 : Nat) (s : Unit) (nx0 bk0 : Unit → Option (Bool)) : Option (Bool) :=
  
  Option.bind (idx a (k0 : Int)) fun (yt_14 : Go.Proofs.Ytfjcibkgbalkaaa.PMail.Mail) =>
  unMail yt_14 fun (t_14_leave : Int) (t_14_from_ : Int) (t_14_to_ : Int) (t_14_arrive : Int) =>
  Option.bind (idx b (k0 : Int)) fun (yt_18 : Go.Proofs.Ytfjcibkgbalkaaa.PMail.Mail) =>
  unMail yt_18 fun (t_18_leave : Int) (t_18_from_ : Int) (t_18_to_ : Int) (t_18_arrive : Int) =>
  Option.bind (Go.Proofs.Ytfjcibkgbalkaaa.GlEqMail.P (Go.Proofs.Ytfjcibkgbalkaaa.PMail.Mail.mk t_14_leave t_14_from_ t_14_to_ t_14_arrive) (Go.Proofs.Ytfjcibkgbalkaaa.PMail.Mail.mk t_18_leave t_18_from_ t_18_to_ t_18_arrive)) fun (t_20 : Bool) =>
  letK (!t_20) fun (t_21 : Bool) =>
  iteK t_21
  (some false)
  (appK nx0 ())

def e0  (s : Unit) : Option (Bool) :=
  
  some true

def P (a : (List Go.Proofs.Ytfjcibkgbalkaaa.PMail.Mail)) (b : (List Go.Proofs.Ytfjcibkgbalkaaa.PMail.Mail)) : Option (Bool) :=
  letK ((a.length : Int) != (b.length : Int)) fun (t_5 : Bool) =>
  iteK t_5
  (some false)
  (cntK (l0 a b) (a.length) 0 () (e0 ))

set_option maxRecDepth 100000 in
set_option maxHeartbeats 2000000 in
theorem C (a : (List Go.Proofs.Ytfjcibkgbalkaaa.PMail.Mail)) (b : (List Go.Proofs.Ytfjcibkgbalkaaa.PMail.Mail)) (A0 : Option Addr) (c0 : Nat) (A1 : Option Addr) (c1 : Nat)  (w : World) (M0 : Hid (Cells w 4 A0 a.length (Go.Proofs.Ytfjcibkgbalkaaa.PMail.flat a))) (N0 : Hid (a.length ≤ 9223372036854775807)) (M1 : Hid (Cells w 4 A1 b.length (Go.Proofs.Ytfjcibkgbalkaaa.PMail.flat b))) (N1 : Hid (b.length ≤ 9223372036854775807))  {r : Bool} (H : Hid (P a b = some r)) :
    Calls Try.prog 49 #[.slice A0 a.length c0, .slice A1 b.length c1] w (Gives (.bool r) w) := by
  have HB := Lib.hid (Below.refl w.heap.size w)
  unfold P at H
  have N0o := N0.out
  have N1o := N1.out
  go_enter Try.func49, Try.ntmps49
  replace H := let_hid H
  obtain ⟨t_5, ht_5, H⟩ := H
  cases t_5 with
  | false =>
    have Hht_5 : Hid (a.length = b.length) := Lib.hid (by have := bne_eq_false_iff_eq.1 ht_5; omega)
    have nht_5 : (a.length == b.length) = true := beq_iff_eq.2 Hht_5.out
    replace H := ite_f H
    go_wp2_with fail
    go_loopg [5] (a.length) (fun m_ v5_ wr => ∃ (k0 : Nat) , k0 + m_ = a.length ∧ v5_ = .int .i64 (k0 : Int) ∧ Hid (cntK (l0 a b) m_ k0 () (e0 ) = some r) ∧ Hid (Below w.heap.size w wr))
    case atStart => exact ⟨0, by omega, rfl, H, HB⟩
    case round =>
      obtain ⟨k0, hkm0, rfl, H, HBwr0⟩ := hrel
      rename World => wr0
      cases gk with
      | zero =>
        obtain rfl : k0 = a.length := by omega
        have hc0 : decide (((a.length : Nat) : Int) < ((a.length : Nat) : Int)) = false := by simp
        replace H := cnt_zero H
        unfold e0 at H
        obtain rfl := ret_hid H
        go_wp2_with fail
        go_ret
        exact ⟨rfl, HBwr0.out⟩
      | succ m0 =>
        have hlt0 : k0 < a.length := by omega
        have hc0 : decide ((k0 : Int) < ((a.length : Nat) : Int)) = true := by simp; omega
        replace H := cnt_succ H
        unfold l0 at H
        go_wp2_with fail
        replace H := idx_hid H
        obtain ⟨nt_14, yt_14, et_14, lt_14, gt_14, H⟩ := H
        obtain rfl : k0 = nt_14 := by omega
        clear et_14
        obtain ⟨t_14_leave, t_14_from_, t_14_to_, t_14_arrive⟩ := yt_14
        replace H := unMail_hid H
        obtain ⟨ab_t_14, ao_t_14, zt_14, At_14, z_t_14, ct_14_0, ct_14_1, ct_14_2, ct_14_3⟩ := Go.Proofs.Ytfjcibkgbalkaaa.OMail.at_ M0.out lt_14
        obtain rfl := Option.some.inj (gt_14.out.symm.trans z_t_14)
        subst At_14
        have ltt_14 := cell_lt ct_14_0
        replace ct_14_0 := cell_below HBwr0.out ct_14_0
        replace ct_14_1 := cell_below HBwr0.out ct_14_1
        replace ct_14_2 := cell_below HBwr0.out ct_14_2
        replace ct_14_3 := cell_below HBwr0.out ct_14_3
        clear z_t_14
        have b0t_14 : (0 : Int) ≤ (k0 : Int) := by omega
        have b1t_14 : (k0 : Int) < ((a.length : Nat) : Int) := by omega
        have b2t_14 : ((k0 : Int)).toNat = k0 := by omega
        have Hct_14_0 := Lib.hid ct_14_0
        replace ct_14_0 := cell_regrown ct_14_0
        have Hct_14_1 := Lib.hid ct_14_1
        replace ct_14_1 := cell_regrown ct_14_1
        have Hct_14_2 := Lib.hid ct_14_2
        replace ct_14_2 := cell_regrown ct_14_2
        have Hct_14_3 := Lib.hid ct_14_3
        replace ct_14_3 := cell_regrown ct_14_3
        replace H := idx_hid H
        obtain ⟨nt_18, yt_18, et_18, lt_18, gt_18, H⟩ := H
        obtain rfl : k0 = nt_18 := by omega
        clear et_18
        obtain ⟨t_18_leave, t_18_from_, t_18_to_, t_18_arrive⟩ := yt_18
        replace H := unMail_hid H
        obtain ⟨ab_t_18, ao_t_18, zt_18, At_18, z_t_18, ct_18_0, ct_18_1, ct_18_2, ct_18_3⟩ := Go.Proofs.Ytfjcibkgbalkaaa.OMail.at_ M1.out lt_18
        obtain rfl := Option.some.inj (gt_18.out.symm.trans z_t_18)
        subst At_18
        have ltt_18 := cell_lt ct_18_0
        replace ct_18_0 := cell_below HBwr0.out ct_18_0
        replace ct_18_1 := cell_below HBwr0.out ct_18_1
        replace ct_18_2 := cell_below HBwr0.out ct_18_2
        replace ct_18_3 := cell_below HBwr0.out ct_18_3
        clear z_t_18
        have b0t_18 : (0 : Int) ≤ (k0 : Int) := by omega
        have b1t_18 : (k0 : Int) < ((b.length : Nat) : Int) := by omega
        have b2t_18 : ((k0 : Int)).toNat = k0 := by omega
        have Hct_18_0 := Lib.hid ct_18_0
        replace ct_18_0 := cell_regrown ct_18_0
        have Hct_18_1 := Lib.hid ct_18_1
        replace ct_18_1 := cell_regrown ct_18_1
        have Hct_18_2 := Lib.hid ct_18_2
        replace ct_18_2 := cell_regrown ct_18_2
        have Hct_18_3 := Lib.hid ct_18_3
        replace ct_18_3 := cell_regrown ct_18_3
        replace H := bind_hid H
        obtain ⟨t_20, qt_20, H⟩ := H
        have nt_20 : ∀ d os, Calls Try.prog 107 #[.agg #[.int .i64 t_14_leave, .int .i64 t_14_from_, .int .i64 t_14_to_, .int .i64 t_14_arrive], .agg #[.int .i64 t_18_leave, .int .i64 t_18_from_, .int .i64 t_18_to_, .int .i64 t_18_arrive]] (Go.Sort.grow (redrawn wr0 d) os) fun e w'' => e = .returned (.bool t_20) ∧ ∃ p : Regrown, w'' = Go.Sort.grow (redrawn wr0 p.d) p.os := fun d os => Calls.regrown_of (Go.Proofs.Ytfjcibkgbalkaaa.GlEqMail.C ((Go.Proofs.Ytfjcibkgbalkaaa.PMail.Mail.mk t_14_leave t_14_from_ t_14_to_ t_14_arrive)) ((Go.Proofs.Ytfjcibkgbalkaaa.PMail.Mail.mk t_18_leave t_18_from_ t_18_to_ t_18_arrive))  _    qt_20)
        cases t_20 with
        | false =>
          replace H := let_hid H
          obtain ⟨t_21, ht_21, H⟩ := H
          obtain rfl : t_21 = true := ht_21.symm
          refine wp_region_quiet_below (by kernel_rfl) (by kernel_rfl) ?_
          repeat (go_big_quiet_step (first | (go_at_call 107; exact nt_20 _ _)))
          refine wpQuiet_nil ?_
          intro Y6 hY6
          replace hY6 := below_class hY6
          clear nt_20
          replace ct_14_0 := Hct_14_0.out
          clear Hct_14_0
          replace ct_14_1 := Hct_14_1.out
          clear Hct_14_1
          replace ct_14_2 := Hct_14_2.out
          clear Hct_14_2
          replace ct_14_3 := Hct_14_3.out
          clear Hct_14_3
          replace ct_18_0 := Hct_18_0.out
          clear Hct_18_0
          replace ct_18_1 := Hct_18_1.out
          clear Hct_18_1
          replace ct_18_2 := Hct_18_2.out
          clear Hct_18_2
          replace ct_18_3 := Hct_18_3.out
          clear Hct_18_3
          have HBY6 := Lib.hid (Below.step HBwr0.out hY6)
          replace ct_14_0 := cell_below hY6 ct_14_0
          replace ct_14_1 := cell_below hY6 ct_14_1
          replace ct_14_2 := cell_below hY6 ct_14_2
          replace ct_14_3 := cell_below hY6 ct_14_3
          replace ct_18_0 := cell_below hY6 ct_18_0
          replace ct_18_1 := cell_below hY6 ct_18_1
          replace ct_18_2 := cell_below hY6 ct_18_2
          replace ct_18_3 := cell_below hY6 ct_18_3
          clear hY6
          replace H := ite_t H
          obtain rfl := ret_hid H
          go_wp2_with fail
          go_ret
          exact ⟨rfl, HBY6.out⟩
        | true =>
          replace H := let_hid H
          obtain ⟨t_21, ht_21, H⟩ := H
          obtain rfl : t_21 = false := ht_21.symm
          refine wp_region_quiet_below (by kernel_rfl) (by kernel_rfl) ?_
          repeat (go_big_quiet_step (first | (go_at_call 107; exact nt_20 _ _)))
          refine wpQuiet_nil ?_
          intro Y6 hY6
          replace hY6 := below_class hY6
          clear nt_20
          replace ct_14_0 := Hct_14_0.out
          clear Hct_14_0
          replace ct_14_1 := Hct_14_1.out
          clear Hct_14_1
          replace ct_14_2 := Hct_14_2.out
          clear Hct_14_2
          replace ct_14_3 := Hct_14_3.out
          clear Hct_14_3
          replace ct_18_0 := Hct_18_0.out
          clear Hct_18_0
          replace ct_18_1 := Hct_18_1.out
          clear Hct_18_1
          replace ct_18_2 := Hct_18_2.out
          clear Hct_18_2
          replace ct_18_3 := Hct_18_3.out
          clear Hct_18_3
          have HBY6 := Lib.hid (Below.step HBwr0.out hY6)
          replace ct_14_0 := cell_below hY6 ct_14_0
          replace ct_14_1 := cell_below hY6 ct_14_1
          replace ct_14_2 := cell_below hY6 ct_14_2
          replace ct_14_3 := cell_below hY6 ct_14_3
          replace ct_18_0 := cell_below hY6 ct_18_0
          replace ct_18_1 := cell_below hY6 ct_18_1
          replace ct_18_2 := cell_below hY6 ct_18_2
          replace ct_18_3 := cell_below hY6 ct_18_3
          clear hY6
          replace H := ite_f H
          replace H := app_hid H
          go_wp2_with fail
          go_roundg m0
          case measure => omega
          case rel => exact ⟨k0 + 1, by omega, by go_num, H, HBY6⟩
  | true =>
    have nht_5 : ¬ (a.length = b.length) := by have := bne_iff_ne.1 ht_5; omega
    replace H := ite_t H
    obtain rfl := ret_hid H
    go_wp2_with fail
    go_ret
    exact ⟨rfl, HB.out⟩
end Go.Proofs.Ytfjcibkgbalkaaa.GlEqMailS

/- loop.example/g01062/laws.markMailS as a plain function, and the contract of the program's: where the plain one has an answer, the program has it. Conditions: slices read as lists. -/
namespace Go.Proofs.Ytfjcibkgbalkaaa.GlMarkMailS
set_option linter.unusedVariables false
set_option linter.unusedSimpArgs false
open Go.RowKit
open Go.Proofs.Ytfjcibkgbalkaaa.Rowed Go.Proofs.Ytfjcibkgbalkaaa.Turn Go.Proofs.Ytfjcibkgbalkaaa.Aid Go.Proofs.Ytfjcibkgbalkaaa.GoP Go.Proofs.Ytfjcibkgbalkaaa.GoM

def l0  (k0 : Nat) (s : (List Go.Proofs.Ytfjcibkgbalkaaa.PMail.Mail) × Int) (nx0 bk0 : (List Go.Proofs.Ytfjcibkgbalkaaa.PMail.Mail) × Int → Option (Int × (List Go.Proofs.Ytfjcibkgbalkaaa.PMail.Mail))) : Option (Int × (List Go.Proofs.Ytfjcibkgbalkaaa.PMail.Mail)) :=
  unp2 s fun a_0l0 k_1l0 =>
  Option.bind (idx a_0l0 (k0 : Int)) fun (yt_9 : Go.Proofs.Ytfjcibkgbalkaaa.PMail.Mail) =>
  unMail yt_9 fun (t_9_leave : Int) (t_9_from_ : Int) (t_9_to_ : Int) (t_9_arrive : Int) =>
  letK (a_0l0.set k0 (Go.Proofs.Ytfjcibkgbalkaaa.PMail.Mail.mk k_1l0 t_9_from_ t_9_to_ t_9_arrive)) fun (l11_11 : (List Go.Proofs.Ytfjcibkgbalkaaa.PMail.Mail)) =>
  letK (IntKind.i64.wrap (k_1l0 + 1)) fun (t_13 : Int) =>
  Option.bind (idx l11_11 (k0 : Int)) fun (yt_18 : Go.Proofs.Ytfjcibkgbalkaaa.PMail.Mail) =>
  unMail yt_18 fun (t_18_leave : Int) (t_18_from_ : Int) (t_18_to_ : Int) (t_18_arrive : Int) =>
  letK (l11_11.set k0 (Go.Proofs.Ytfjcibkgbalkaaa.PMail.Mail.mk t_18_leave t_13 t_18_to_ t_18_arrive)) fun (l20_20 : (List Go.Proofs.Ytfjcibkgbalkaaa.PMail.Mail)) =>
  letK (IntKind.i64.wrap (t_13 + 1)) fun (t_22 : Int) =>
  Option.bind (idx l20_20 (k0 : Int)) fun (yt_27 : Go.Proofs.Ytfjcibkgbalkaaa.PMail.Mail) =>
  unMail yt_27 fun (t_27_leave : Int) (t_27_from_ : Int) (t_27_to_ : Int) (t_27_arrive : Int) =>
  letK (l20_20.set k0 (Go.Proofs.Ytfjcibkgbalkaaa.PMail.Mail.mk t_27_leave t_27_from_ t_22 t_27_arrive)) fun (l29_29 : (List Go.Proofs.Ytfjcibkgbalkaaa.PMail.Mail)) =>
  letK (IntKind.i64.wrap (t_22 + 1)) fun (t_31 : Int) =>
  Option.bind (idx l29_29 (k0 : Int)) fun (yt_36 : Go.Proofs.Ytfjcibkgbalkaaa.PMail.Mail) =>
  unMail yt_36 fun (t_36_leave : Int) (t_36_from_ : Int) (t_36_to_ : Int) (t_36_arrive : Int) =>
  letK (l29_29.set k0 (Go.Proofs.Ytfjcibkgbalkaaa.PMail.Mail.mk t_36_leave t_36_from_ t_36_to_ t_31)) fun (l38_38 : (List Go.Proofs.Ytfjcibkgbalkaaa.PMail.Mail)) =>
  letK (IntKind.i64.wrap (t_31 + 1)) fun (t_40 : Int) =>
  appK nx0 (l38_38, t_40)

def e0  (s : (List Go.Proofs.Ytfjcibkgbalkaaa.PMail.Mail) × Int) : Option (Int × (List Go.Proofs.Ytfjcibkgbalkaaa.PMail.Mail)) :=
  unp2 s fun a_0l0 k_1l0 =>
  some (k_1l0, a_0l0)

def P (a : (List Go.Proofs.Ytfjcibkgbalkaaa.PMail.Mail)) (k_1 : Int) : Option (Int × (List Go.Proofs.Ytfjcibkgbalkaaa.PMail.Mail)) :=
  cntK (l0 ) (a.length) 0 (a, k_1) (e0 )

set_option maxRecDepth 100000 in
set_option maxHeartbeats 2000000 in
theorem C (a : (List Go.Proofs.Ytfjcibkgbalkaaa.PMail.Mail)) (k_1 : Int) (A0 : Option Addr) (c0 : Nat)  (b0 : Nat) (w : World) (M0 : Hid (w.ownsRow b0 95 4 (.slice A0 a.length c0) a.length (Go.Proofs.Ytfjcibkgbalkaaa.PMail.flat a))) (N0 : Hid (a.length ≤ 9223372036854775807))  {r : Int} {l_ : (List Go.Proofs.Ytfjcibkgbalkaaa.PMail.Mail)} (H : Hid (P a k_1 = some (r, l_))) :
    Calls Try.prog 52 #[.slice A0 a.length c0, .int .i64 k_1] w (fun e w' => e = .returned (.int .i64 r) ∧ w'.ownsRow b0 95 4 (.slice A0 a.length c0) a.length (Go.Proofs.Ytfjcibkgbalkaaa.PMail.flat l_) ∧ l_.length = a.length ∧ w.grownBy w' (Value.slice A0 a.length c0).ownBlock) := by
  have HB := Lib.hid (Aid.grown_refl w (Value.slice A0 a.length c0).ownBlock)
  unfold P at H
  have N0o := N0.out
  go_enter Try.func52, Try.ntmps52
  go_wp2_with fail
  have hb_0 : a.length ≤ 9223372036854775807 := own_max M0.out
  go_wp2_with fail
  go_loopg [5, 1] (a.length) (fun m_ v5_ v1_ wr => ∃ (k0 : Nat) (a_0l0 : (List Go.Proofs.Ytfjcibkgbalkaaa.PMail.Mail)) (k_1l0 : Int), k0 + m_ = a.length ∧ v5_ = .int .i64 (k0 : Int) ∧ v1_ = .int .i64 k_1l0 ∧ Hid (cntK (l0 ) m_ k0 (a_0l0, k_1l0) (e0 ) = some (r, l_)) ∧ Hid (w.grownBy wr (Value.slice A0 a.length c0).ownBlock) ∧ Hid (wr.ownsRow b0 95 4 (.slice A0 a.length c0) a.length (Go.Proofs.Ytfjcibkgbalkaaa.PMail.flat a_0l0)) ∧ Hid (a_0l0.length = a.length))
  case atStart => exact ⟨0, _, _, by omega, rfl, rfl, H, HB, M0, Lib.hid (rfl)⟩
  case round =>
    obtain ⟨k0, a_0l0, k_1l0, hkm0, rfl, rfl, H, HBwr0, Oa_0l0, hna_0l0⟩ := hrel
    rename World => wr0
    cases gk with
    | zero =>
      obtain rfl : k0 = a.length := by omega
      have hc0 : decide (((a.length : Nat) : Int) < ((a.length : Nat) : Int)) = false := by simp
      replace H := cnt_zero H
      unfold e0 at H
      replace H := unp2_hid H
      cases ret_hid H
      go_wp2_with fail
      go_ret
      exact ⟨rfl, Oa_0l0.out, hna_0l0.out, HBwr0.out⟩
    | succ m0 =>
      have hlt0 : k0 < a.length := by omega
      have hc0 : decide ((k0 : Int) < ((a.length : Nat) : Int)) = true := by simp; omega
      replace H := cnt_succ H
      unfold l0 at H
      replace H := unp2_hid H
      replace H := idx_hid H
      obtain ⟨nt_9, yt_9, et_9, lt_9, gt_9, H⟩ := H
      obtain rfl : k0 = nt_9 := by omega
      clear et_9
      obtain ⟨t_9_leave, t_9_from_, t_9_to_, t_9_arrive⟩ := yt_9
      replace H := unMail_hid H
      have hqt_9 := hna_0l0.out
      obtain ⟨qt_9, Qt_9⟩ := own_some Oa_0l0.out (by omega)
      subst Qt_9
      obtain ⟨ab_t_9, ao_t_9, zt_9, At_9, z_t_9, ct_9_0, ct_9_1, ct_9_2, ct_9_3⟩ := Go.Proofs.Ytfjcibkgbalkaaa.OMail.at_ (own_cells Oa_0l0.out) (k := k0) (by omega)
      obtain rfl := Option.some.inj (gt_9.out.symm.trans z_t_9)
      simp only [Option.some.injEq, Addr.mk.injEq] at At_9
      obtain ⟨rfl, rfl, _⟩ := At_9
      clear z_t_9
      simp only [Nat.zero_add] at ct_9_0 ct_9_1 ct_9_2 ct_9_3
      have b0t_9 : (0 : Int) ≤ (k0 : Int) := by omega
      have b1t_9 : (k0 : Int) < ((a.length : Nat) : Int) := by omega
      have b2t_9 : ((k0 : Int)).toNat = k0 := by omega
      clear hqt_9
      replace H := let_hid H
      obtain ⟨l11_11, hl11_11, H⟩ := H
      try simp only [Int.toNat_natCast] at hl11_11
      obtain ⟨wl11_11, hwl11_11⟩ : ∃ x, (wr0).setCell ⟨qt_9, k0 * 4, none⟩ (.int .i64 k_1l0) = x := ⟨_, rfl⟩
      have z0l11_11 := Oa_0l0.out.frozenAt (k0 * 4)
      have Sl11_11 := Lib.hid (own_stores [(k0 * 4, .int .i64 k_1l0)] Oa_0l0.out)
      have nl11_11 : Hid (l11_11.length = a.length) := Lib.hid (by rw [← hl11_11, List.length_set]; exact hna_0l0.out)
      have Pl11_11 : Hid (wl11_11.ownsRow b0 95 4 (.slice (some ⟨qt_9, 0, none⟩) a.length c0) a.length (Go.Proofs.Ytfjcibkgbalkaaa.PMail.flat l11_11)) := Lib.hid (by have es_ := set_self gt_9.out; have e0_ := flat_set Go.Proofs.Ytfjcibkgbalkaaa.PMail.Mail.cells 4 (fun _ => rfl) a_0l0 (k0) 0 (Go.Proofs.Ytfjcibkgbalkaaa.PMail.Mail.mk t_9_leave t_9_from_ t_9_to_ t_9_arrive) (Go.Proofs.Ytfjcibkgbalkaaa.PMail.Mail.mk k_1l0 t_9_from_ t_9_to_ t_9_arrive) (.int .i64 k_1l0) lt_9 (by decide) rfl; rw [es_] at e0_; have e_ : ([(k0 * 4, .int .i64 k_1l0)] : List (Nat × Value)).foldl (fun xs p => xs.set p.1 p.2) (Go.Proofs.Ytfjcibkgbalkaaa.PMail.flat a_0l0) = (Go.Proofs.Ytfjcibkgbalkaaa.PMail.flat l11_11) := (by rw [← hl11_11]; show _ = List.flatMap Go.Proofs.Ytfjcibkgbalkaaa.PMail.Mail.cells _; first | (rw [← e0_]; first | done | rfl)); rw [← hwl11_11, ← e_]; exact Sl11_11.out.1)
      have Gl11_11 : Hid (wr0.grownBy wl11_11 (Value.slice (some ⟨qt_9, 0, none⟩) a.length c0).ownBlock) := Lib.hid (by rw [← hwl11_11]; exact Sl11_11.out.2)
      have HBwl11_11 := Lib.hid (Aid.grown_tr HBwr0.out Gl11_11.out)
      have hhl11_11 := Lib.hid hl11_11
      clear hl11_11 Sl11_11
      clear Oa_0l0 Gl11_11
      replace H := let_hid H
      obtain ⟨t_13, ht_13, H⟩ := H
      replace H := idx_hid H
      obtain ⟨nt_18, yt_18, et_18, lt_18, gt_18, H⟩ := H
      obtain rfl : k0 = nt_18 := by omega
      clear et_18
      obtain ⟨t_18_leave, t_18_from_, t_18_to_, t_18_arrive⟩ := yt_18
      replace H := unMail_hid H
      have hqt_18 := nl11_11.out
      obtain ⟨ab_t_18, ao_t_18, zt_18, At_18, z_t_18, ct_18_0, ct_18_1, ct_18_2, ct_18_3⟩ := Go.Proofs.Ytfjcibkgbalkaaa.OMail.at_ (own_cells Pl11_11.out) (k := k0) (by omega)
      obtain rfl := Option.some.inj (gt_18.out.symm.trans z_t_18)
      simp only [Option.some.injEq, Addr.mk.injEq] at At_18
      obtain ⟨rfl, rfl, _⟩ := At_18
      clear z_t_18
      simp only [Nat.zero_add] at ct_18_0 ct_18_1 ct_18_2 ct_18_3
      have b0t_18 : (0 : Int) ≤ (k0 : Int) := by omega
      have b1t_18 : (k0 : Int) < ((a.length : Nat) : Int) := by omega
      have b2t_18 : ((k0 : Int)).toNat = k0 := by omega
      clear hqt_18
      replace H := let_hid H
      obtain ⟨l20_20, hl20_20, H⟩ := H
      try simp only [Int.toNat_natCast] at hl20_20
      obtain ⟨wl20_20, hwl20_20⟩ : ∃ x, (wl11_11).setCell ⟨qt_9, k0 * 4 + 1, none⟩ (.int .i64 t_13) = x := ⟨_, rfl⟩
      have z0l20_20 := Pl11_11.out.frozenAt (k0 * 4 + 1)
      have Sl20_20 := Lib.hid (own_stores [(k0 * 4 + 1, .int .i64 t_13)] Pl11_11.out)
      have nl20_20 : Hid (l20_20.length = a.length) := Lib.hid (by rw [← hl20_20, List.length_set]; exact nl11_11.out)
      have Pl20_20 : Hid (wl20_20.ownsRow b0 95 4 (.slice (some ⟨qt_9, 0, none⟩) a.length c0) a.length (Go.Proofs.Ytfjcibkgbalkaaa.PMail.flat l20_20)) := Lib.hid (by have es_ := set_self gt_18.out; have e0_ := flat_set Go.Proofs.Ytfjcibkgbalkaaa.PMail.Mail.cells 4 (fun _ => rfl) l11_11 (k0) 1 (Go.Proofs.Ytfjcibkgbalkaaa.PMail.Mail.mk t_18_leave t_18_from_ t_18_to_ t_18_arrive) (Go.Proofs.Ytfjcibkgbalkaaa.PMail.Mail.mk t_18_leave t_13 t_18_to_ t_18_arrive) (.int .i64 t_13) lt_18 (by decide) rfl; rw [es_] at e0_; have e_ : ([(k0 * 4 + 1, .int .i64 t_13)] : List (Nat × Value)).foldl (fun xs p => xs.set p.1 p.2) (Go.Proofs.Ytfjcibkgbalkaaa.PMail.flat l11_11) = (Go.Proofs.Ytfjcibkgbalkaaa.PMail.flat l20_20) := (by rw [← hl20_20]; show _ = List.flatMap Go.Proofs.Ytfjcibkgbalkaaa.PMail.Mail.cells _; first | (rw [← e0_]; first | done | rfl)); rw [← hwl20_20, ← e_]; exact Sl20_20.out.1)
      have Gl20_20 : Hid (wl11_11.grownBy wl20_20 (Value.slice (some ⟨qt_9, 0, none⟩) a.length c0).ownBlock) := Lib.hid (by rw [← hwl20_20]; exact Sl20_20.out.2)
      have HBwl20_20 := Lib.hid (Aid.grown_tr HBwl11_11.out Gl20_20.out)
      have hhl20_20 := Lib.hid hl20_20
      clear hl20_20 Sl20_20
      clear Pl11_11 Gl20_20
      replace H := let_hid H
      obtain ⟨t_22, ht_22, H⟩ := H
      replace H := idx_hid H
      obtain ⟨nt_27, yt_27, et_27, lt_27, gt_27, H⟩ := H
      obtain rfl : k0 = nt_27 := by omega
      clear et_27
      obtain ⟨t_27_leave, t_27_from_, t_27_to_, t_27_arrive⟩ := yt_27
      replace H := unMail_hid H
      have hqt_27 := nl20_20.out
      obtain ⟨ab_t_27, ao_t_27, zt_27, At_27, z_t_27, ct_27_0, ct_27_1, ct_27_2, ct_27_3⟩ := Go.Proofs.Ytfjcibkgbalkaaa.OMail.at_ (own_cells Pl20_20.out) (k := k0) (by omega)
      obtain rfl := Option.some.inj (gt_27.out.symm.trans z_t_27)
      simp only [Option.some.injEq, Addr.mk.injEq] at At_27
      obtain ⟨rfl, rfl, _⟩ := At_27
      clear z_t_27
      simp only [Nat.zero_add] at ct_27_0 ct_27_1 ct_27_2 ct_27_3
      have b0t_27 : (0 : Int) ≤ (k0 : Int) := by omega
      have b1t_27 : (k0 : Int) < ((a.length : Nat) : Int) := by omega
      have b2t_27 : ((k0 : Int)).toNat = k0 := by omega
      clear hqt_27
      replace H := let_hid H
      obtain ⟨l29_29, hl29_29, H⟩ := H
      try simp only [Int.toNat_natCast] at hl29_29
      obtain ⟨wl29_29, hwl29_29⟩ : ∃ x, (wl20_20).setCell ⟨qt_9, k0 * 4 + 2, none⟩ (.int .i64 t_22) = x := ⟨_, rfl⟩
      have z0l29_29 := Pl20_20.out.frozenAt (k0 * 4 + 2)
      have Sl29_29 := Lib.hid (own_stores [(k0 * 4 + 2, .int .i64 t_22)] Pl20_20.out)
      have nl29_29 : Hid (l29_29.length = a.length) := Lib.hid (by rw [← hl29_29, List.length_set]; exact nl20_20.out)
      have Pl29_29 : Hid (wl29_29.ownsRow b0 95 4 (.slice (some ⟨qt_9, 0, none⟩) a.length c0) a.length (Go.Proofs.Ytfjcibkgbalkaaa.PMail.flat l29_29)) := Lib.hid (by have es_ := set_self gt_27.out; have e0_ := flat_set Go.Proofs.Ytfjcibkgbalkaaa.PMail.Mail.cells 4 (fun _ => rfl) l20_20 (k0) 2 (Go.Proofs.Ytfjcibkgbalkaaa.PMail.Mail.mk t_27_leave t_27_from_ t_27_to_ t_27_arrive) (Go.Proofs.Ytfjcibkgbalkaaa.PMail.Mail.mk t_27_leave t_27_from_ t_22 t_27_arrive) (.int .i64 t_22) lt_27 (by decide) rfl; rw [es_] at e0_; have e_ : ([(k0 * 4 + 2, .int .i64 t_22)] : List (Nat × Value)).foldl (fun xs p => xs.set p.1 p.2) (Go.Proofs.Ytfjcibkgbalkaaa.PMail.flat l20_20) = (Go.Proofs.Ytfjcibkgbalkaaa.PMail.flat l29_29) := (by rw [← hl29_29]; show _ = List.flatMap Go.Proofs.Ytfjcibkgbalkaaa.PMail.Mail.cells _; first | (rw [← e0_]; first | done | rfl)); rw [← hwl29_29, ← e_]; exact Sl29_29.out.1)
      have Gl29_29 : Hid (wl20_20.grownBy wl29_29 (Value.slice (some ⟨qt_9, 0, none⟩) a.length c0).ownBlock) := Lib.hid (by rw [← hwl29_29]; exact Sl29_29.out.2)
      have HBwl29_29 := Lib.hid (Aid.grown_tr HBwl20_20.out Gl29_29.out)
      have hhl29_29 := Lib.hid hl29_29
      clear hl29_29 Sl29_29
      clear Pl20_20 Gl29_29
      replace H := let_hid H
      obtain ⟨t_31, ht_31, H⟩ := H
      replace H := idx_hid H
      obtain ⟨nt_36, yt_36, et_36, lt_36, gt_36, H⟩ := H
      obtain rfl : k0 = nt_36 := by omega
      clear et_36
      obtain ⟨t_36_leave, t_36_from_, t_36_to_, t_36_arrive⟩ := yt_36
      replace H := unMail_hid H
      have hqt_36 := nl29_29.out
      obtain ⟨ab_t_36, ao_t_36, zt_36, At_36, z_t_36, ct_36_0, ct_36_1, ct_36_2, ct_36_3⟩ := Go.Proofs.Ytfjcibkgbalkaaa.OMail.at_ (own_cells Pl29_29.out) (k := k0) (by omega)
      obtain rfl := Option.some.inj (gt_36.out.symm.trans z_t_36)
      simp only [Option.some.injEq, Addr.mk.injEq] at At_36
      obtain ⟨rfl, rfl, _⟩ := At_36
      clear z_t_36
      simp only [Nat.zero_add] at ct_36_0 ct_36_1 ct_36_2 ct_36_3
      have b0t_36 : (0 : Int) ≤ (k0 : Int) := by omega
      have b1t_36 : (k0 : Int) < ((a.length : Nat) : Int) := by omega
      have b2t_36 : ((k0 : Int)).toNat = k0 := by omega
      clear hqt_36
      replace H := let_hid H
      obtain ⟨l38_38, hl38_38, H⟩ := H
      try simp only [Int.toNat_natCast] at hl38_38
      obtain ⟨wl38_38, hwl38_38⟩ : ∃ x, (wl29_29).setCell ⟨qt_9, k0 * 4 + 3, none⟩ (.int .i64 t_31) = x := ⟨_, rfl⟩
      have z0l38_38 := Pl29_29.out.frozenAt (k0 * 4 + 3)
      have Sl38_38 := Lib.hid (own_stores [(k0 * 4 + 3, .int .i64 t_31)] Pl29_29.out)
      have nl38_38 : Hid (l38_38.length = a.length) := Lib.hid (by rw [← hl38_38, List.length_set]; exact nl29_29.out)
      have Pl38_38 : Hid (wl38_38.ownsRow b0 95 4 (.slice (some ⟨qt_9, 0, none⟩) a.length c0) a.length (Go.Proofs.Ytfjcibkgbalkaaa.PMail.flat l38_38)) := Lib.hid (by have es_ := set_self gt_36.out; have e0_ := flat_set Go.Proofs.Ytfjcibkgbalkaaa.PMail.Mail.cells 4 (fun _ => rfl) l29_29 (k0) 3 (Go.Proofs.Ytfjcibkgbalkaaa.PMail.Mail.mk t_36_leave t_36_from_ t_36_to_ t_36_arrive) (Go.Proofs.Ytfjcibkgbalkaaa.PMail.Mail.mk t_36_leave t_36_from_ t_36_to_ t_31) (.int .i64 t_31) lt_36 (by decide) rfl; rw [es_] at e0_; have e_ : ([(k0 * 4 + 3, .int .i64 t_31)] : List (Nat × Value)).foldl (fun xs p => xs.set p.1 p.2) (Go.Proofs.Ytfjcibkgbalkaaa.PMail.flat l29_29) = (Go.Proofs.Ytfjcibkgbalkaaa.PMail.flat l38_38) := (by rw [← hl38_38]; show _ = List.flatMap Go.Proofs.Ytfjcibkgbalkaaa.PMail.Mail.cells _; first | (rw [← e0_]; first | done | rfl)); rw [← hwl38_38, ← e_]; exact Sl38_38.out.1)
      have Gl38_38 : Hid (wl29_29.grownBy wl38_38 (Value.slice (some ⟨qt_9, 0, none⟩) a.length c0).ownBlock) := Lib.hid (by rw [← hwl38_38]; exact Sl38_38.out.2)
      have HBwl38_38 := Lib.hid (Aid.grown_tr HBwl29_29.out Gl38_38.out)
      have hhl38_38 := Lib.hid hl38_38
      clear hl38_38 Sl38_38
      clear Pl29_29 Gl38_38
      replace H := let_hid H
      obtain ⟨t_40, ht_40, H⟩ := H
      replace H := app_hid H
      go_wp2_with fail
      clear z0l11_11 ct_9_0 ct_9_1 ct_9_2 ct_9_3 z0l20_20 ct_18_0 ct_18_1 ct_18_2 ct_18_3 z0l29_29 ct_27_0 ct_27_1 ct_27_2 ct_27_3 z0l38_38 ct_36_0 ct_36_1 ct_36_2 ct_36_3
      go_roundg m0
      case measure => omega
      case rel => exact ⟨k0 + 1, _, _, by omega, by go_num, rfl, H, HBwl38_38, Pl38_38, Lib.hid (nl38_38.out)⟩
end Go.Proofs.Ytfjcibkgbalkaaa.GlMarkMailS

/- loop.example/g01062/laws.markIntS as a plain function, and the contract of the program's: where the plain one has an answer, the program has it. Conditions: slices read as lists. -/
namespace Go.Proofs.Ytfjcibkgbalkaaa.GlMarkIntS
set_option linter.unusedVariables false
set_option linter.unusedSimpArgs false
open Go.RowKit
open Go.Proofs.Ytfjcibkgbalkaaa.Rowed Go.Proofs.Ytfjcibkgbalkaaa.Turn Go.Proofs.Ytfjcibkgbalkaaa.Aid Go.Proofs.Ytfjcibkgbalkaaa.GoP Go.Proofs.Ytfjcibkgbalkaaa.GoM

def l0  (k0 : Nat) (s : (List Int) × Int) (nx0 bk0 : (List Int) × Int → Option (Int × (List Int))) : Option (Int × (List Int)) :=
  unp2 s fun a_0l0 k_1l0 =>
  Option.bind (idx a_0l0 (k0 : Int)) fun (yt_9 : Int) =>
  letK (a_0l0.set k0 k_1l0) fun (l10_10 : (List Int)) =>
  letK (IntKind.i64.wrap (k_1l0 + 1)) fun (t_12 : Int) =>
  appK nx0 (l10_10, t_12)

def e0  (s : (List Int) × Int) : Option (Int × (List Int)) :=
  unp2 s fun a_0l0 k_1l0 =>
  some (k_1l0, a_0l0)

def P (a : (List Int)) (k_1 : Int) : Option (Int × (List Int)) :=
  cntK (l0 ) (a.length) 0 (a, k_1) (e0 )

set_option maxRecDepth 100000 in
set_option maxHeartbeats 2000000 in
theorem C (a : (List Int)) (k_1 : Int) (A0 : Option Addr) (c0 : Nat)  (b0 : Nat) (w : World) (M0 : Hid (w.ownsRow b0 3 1 (.slice A0 a.length c0) a.length (Go.Proofs.Ytfjcibkgbalkaaa.HelpInt.iv a))) (N0 : Hid (a.length ≤ 9223372036854775807))  {r : Int} {l_ : (List Int)} (H : Hid (P a k_1 = some (r, l_))) :
    Calls Try.prog 53 #[.slice A0 a.length c0, .int .i64 k_1] w (fun e w' => e = .returned (.int .i64 r) ∧ w'.ownsRow b0 3 1 (.slice A0 a.length c0) a.length (Go.Proofs.Ytfjcibkgbalkaaa.HelpInt.iv l_) ∧ l_.length = a.length ∧ w.grownBy w' (Value.slice A0 a.length c0).ownBlock) := by
  have HB := Lib.hid (Aid.grown_refl w (Value.slice A0 a.length c0).ownBlock)
  unfold P at H
  have N0o := N0.out
  go_enter Try.func53, Try.ntmps53
  go_wp2_with fail
  have hb_0 : a.length ≤ 9223372036854775807 := own_max M0.out
  go_wp2_with fail
  go_loopg [5, 1] (a.length) (fun m_ v5_ v1_ wr => ∃ (k0 : Nat) (a_0l0 : (List Int)) (k_1l0 : Int), k0 + m_ = a.length ∧ v5_ = .int .i64 (k0 : Int) ∧ v1_ = .int .i64 k_1l0 ∧ Hid (cntK (l0 ) m_ k0 (a_0l0, k_1l0) (e0 ) = some (r, l_)) ∧ Hid (w.grownBy wr (Value.slice A0 a.length c0).ownBlock) ∧ Hid (wr.ownsRow b0 3 1 (.slice A0 a.length c0) a.length (Go.Proofs.Ytfjcibkgbalkaaa.HelpInt.iv a_0l0)) ∧ Hid (a_0l0.length = a.length))
  case atStart => exact ⟨0, _, _, by omega, rfl, rfl, H, HB, M0, Lib.hid (rfl)⟩
  case round =>
    obtain ⟨k0, a_0l0, k_1l0, hkm0, rfl, rfl, H, HBwr0, Oa_0l0, hna_0l0⟩ := hrel
    rename World => wr0
    cases gk with
    | zero =>
      obtain rfl : k0 = a.length := by omega
      have hc0 : decide (((a.length : Nat) : Int) < ((a.length : Nat) : Int)) = false := by simp
      replace H := cnt_zero H
      unfold e0 at H
      replace H := unp2_hid H
      cases ret_hid H
      go_wp2_with fail
      go_ret
      exact ⟨rfl, Oa_0l0.out, hna_0l0.out, HBwr0.out⟩
    | succ m0 =>
      have hlt0 : k0 < a.length := by omega
      have hc0 : decide ((k0 : Int) < ((a.length : Nat) : Int)) = true := by simp; omega
      replace H := cnt_succ H
      unfold l0 at H
      replace H := unp2_hid H
      replace H := idx_hid H
      obtain ⟨nt_9, yt_9, et_9, lt_9, gt_9, H⟩ := H
      obtain rfl : k0 = nt_9 := by omega
      clear et_9
      have hqt_9 := hna_0l0.out
      obtain ⟨qt_9, Qt_9⟩ := own_some Oa_0l0.out (by omega)
      subst Qt_9
      obtain ⟨ab_t_9, ao_t_9, zt_9, At_9, z_t_9, ct_9_0⟩ := Go.Proofs.Ytfjcibkgbalkaaa.HelpInt.Ints.at_ (own_cells Oa_0l0.out) (k := k0) (by omega)
      obtain rfl := Option.some.inj (gt_9.out.symm.trans z_t_9)
      simp only [Option.some.injEq, Addr.mk.injEq] at At_9
      obtain ⟨rfl, rfl, _⟩ := At_9
      clear z_t_9
      simp only [Nat.zero_add] at ct_9_0
      have b0t_9 : (0 : Int) ≤ (k0 : Int) := by omega
      have b1t_9 : (k0 : Int) < ((a.length : Nat) : Int) := by omega
      have b2t_9 : ((k0 : Int)).toNat = k0 := by omega
      clear hqt_9
      replace H := let_hid H
      obtain ⟨l10_10, hl10_10, H⟩ := H
      try simp only [Int.toNat_natCast] at hl10_10
      obtain ⟨wl10_10, hwl10_10⟩ : ∃ x, (wr0).setCell ⟨qt_9, k0, none⟩ (.int .i64 k_1l0) = x := ⟨_, rfl⟩
      have z0l10_10 := Oa_0l0.out.frozenAt (k0)
      have Sl10_10 := Lib.hid (own_stores [(k0, .int .i64 k_1l0)] Oa_0l0.out)
      have nl10_10 : Hid (l10_10.length = a.length) := Lib.hid (by rw [← hl10_10, List.length_set]; exact hna_0l0.out)
      have Pl10_10 : Hid (wl10_10.ownsRow b0 3 1 (.slice (some ⟨qt_9, 0, none⟩) a.length c0) a.length (Go.Proofs.Ytfjcibkgbalkaaa.HelpInt.iv l10_10)) := Lib.hid (by have e_ : ([(k0, .int .i64 k_1l0)] : List (Nat × Value)).foldl (fun xs p => xs.set p.1 p.2) (Go.Proofs.Ytfjcibkgbalkaaa.HelpInt.iv a_0l0) = (Go.Proofs.Ytfjcibkgbalkaaa.HelpInt.iv l10_10) := (by rw [← hl10_10]; first | done | simp [Go.Proofs.Ytfjcibkgbalkaaa.HelpInt.iv, List.map_set]); rw [← hwl10_10, ← e_]; exact Sl10_10.out.1)
      have Gl10_10 : Hid (wr0.grownBy wl10_10 (Value.slice (some ⟨qt_9, 0, none⟩) a.length c0).ownBlock) := Lib.hid (by rw [← hwl10_10]; exact Sl10_10.out.2)
      have HBwl10_10 := Lib.hid (Aid.grown_tr HBwr0.out Gl10_10.out)
      have hhl10_10 := Lib.hid hl10_10
      clear hl10_10 Sl10_10
      clear Oa_0l0 Gl10_10
      replace H := let_hid H
      obtain ⟨t_12, ht_12, H⟩ := H
      replace H := app_hid H
      go_wp2_with fail
      clear z0l10_10 ct_9_0
      go_roundg m0
      case measure => omega
      case rel => exact ⟨k0 + 1, _, _, by omega, by go_num, rfl, H, HBwl10_10, Pl10_10, Lib.hid (nl10_10.out)⟩
end Go.Proofs.Ytfjcibkgbalkaaa.GlMarkIntS

/- loop.example/g01062/laws.heldIntS as a plain function, and the contract of the program's: where the plain one has an answer, the program has it. Conditions: slices read as lists. -/
namespace Go.Proofs.Ytfjcibkgbalkaaa.GlHeldIntS
set_option linter.unusedVariables false
set_option linter.unusedSimpArgs false
open Go.RowKit
open Go.Proofs.Ytfjcibkgbalkaaa.Rowed Go.Proofs.Ytfjcibkgbalkaaa.Turn Go.Proofs.Ytfjcibkgbalkaaa.Aid Go.Proofs.Ytfjcibkgbalkaaa.GoP Go.Proofs.Ytfjcibkgbalkaaa.GoM

def l0 (a : (List Int)) (k0 : Nat) (s : Int) (nx0 bk0 : Int → Option (Int)) : Option (Int) :=
  letK s fun k_1l0 =>
  Option.bind (idx a (k0 : Int)) fun (yt_8 : Int) =>
  letK (yt_8 != k_1l0) fun (t_11 : Bool) =>
  iteK t_11
  (some (-1))
  (letK (IntKind.i64.wrap (k_1l0 + 1)) fun (t_14 : Int) =>
  appK nx0 (t_14))

def e0  (s : Int) : Option (Int) :=
  letK s fun k_1l0 =>
  some k_1l0

def P (a : (List Int)) (k_1 : Int) : Option (Int) :=
  cntK (l0 a) (a.length) 0 (k_1) (e0 )

set_option maxRecDepth 100000 in
set_option maxHeartbeats 2000000 in
theorem C (a : (List Int)) (k_1 : Int) (A0 : Option Addr) (c0 : Nat)  (w : World) (M0 : Hid (Cells w 1 A0 a.length (Go.Proofs.Ytfjcibkgbalkaaa.HelpInt.iv a))) (N0 : Hid (a.length ≤ 9223372036854775807))  {r : Int} (H : Hid (P a k_1 = some r)) :
    Calls Try.prog 54 #[.slice A0 a.length c0, .int .i64 k_1] w (Gives (.int .i64 r) w) := by
  have HB := Lib.hid (Below.refl w.heap.size w)
  unfold P at H
  have N0o := N0.out
  go_enter Try.func54, Try.ntmps54
  go_wp2_with fail
  go_loopg [5, 1] (a.length) (fun m_ v5_ v1_ wr => ∃ (k0 : Nat) (k_1l0 : Int), k0 + m_ = a.length ∧ v5_ = .int .i64 (k0 : Int) ∧ v1_ = .int .i64 k_1l0 ∧ Hid (cntK (l0 a) m_ k0 (k_1l0) (e0 ) = some r) ∧ Hid (Below w.heap.size w wr))
  case atStart => exact ⟨0, _, by omega, rfl, rfl, H, HB⟩
  case round =>
    obtain ⟨k0, k_1l0, hkm0, rfl, rfl, H, HBwr0⟩ := hrel
    rename World => wr0
    cases gk with
    | zero =>
      obtain rfl : k0 = a.length := by omega
      have hc0 : decide (((a.length : Nat) : Int) < ((a.length : Nat) : Int)) = false := by simp
      replace H := cnt_zero H
      unfold e0 at H
      replace H := let_hid H
      obtain ⟨_, rfl, H⟩ := H
      obtain rfl := ret_hid H
      go_wp2_with fail
      go_ret
      exact ⟨rfl, HBwr0.out⟩
    | succ m0 =>
      have hlt0 : k0 < a.length := by omega
      have hc0 : decide ((k0 : Int) < ((a.length : Nat) : Int)) = true := by simp; omega
      replace H := cnt_succ H
      unfold l0 at H
      replace H := let_hid H
      obtain ⟨_, rfl, H⟩ := H
      replace H := idx_hid H
      obtain ⟨nt_8, yt_8, et_8, lt_8, gt_8, H⟩ := H
      obtain rfl : k0 = nt_8 := by omega
      clear et_8
      obtain ⟨ab_t_8, ao_t_8, zt_8, At_8, z_t_8, ct_8_0⟩ := Go.Proofs.Ytfjcibkgbalkaaa.HelpInt.Ints.at_ M0.out lt_8
      obtain rfl := Option.some.inj (gt_8.out.symm.trans z_t_8)
      subst At_8
      have ltt_8 := cell_lt ct_8_0
      replace ct_8_0 := cell_below HBwr0.out ct_8_0
      clear z_t_8
      have b0t_8 : (0 : Int) ≤ (k0 : Int) := by omega
      have b1t_8 : (k0 : Int) < ((a.length : Nat) : Int) := by omega
      have b2t_8 : ((k0 : Int)).toNat = k0 := by omega
      replace H := let_hid H
      obtain ⟨t_11, ht_11, H⟩ := H
      cases t_11 with
      | false =>
        replace H := ite_f H
        replace H := let_hid H
        obtain ⟨t_14, ht_14, H⟩ := H
        replace H := app_hid H
        go_wp2_with fail
        go_roundg m0
        case measure => omega
        case rel => exact ⟨k0 + 1, _, by omega, by go_num, rfl, H, HBwr0⟩
      | true =>
        replace H := ite_t H
        obtain rfl := ret_hid H
        go_wp2_with fail
        go_ret
        exact ⟨rfl, HBwr0.out⟩
end Go.Proofs.Ytfjcibkgbalkaaa.GlHeldIntS

