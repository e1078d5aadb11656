/- The texts on which the proof of FnExactFirstKind stands, one behind the other (2 of 3). No condition of their own. -/
import Derived.Test.YtekacbjnpeglhaaChecked
import Derived.Test.YtekacbjnpeglhaaFnExactFirstKindP1
import Derived.WalkKit
import Derived.WalkSpells
import Derived.WalkLawsBesides
import Derived.BigQuiet
import Derived.OwnWalk
import Derived.Deep.LoopGhost
import Derived.Deep.QuietTactic
import Derived.IntWalk
import Derived.Lib.QuietBelow
import Derived.Deep.RegionHeld3
import Derived.Lib.SliceRun
/- loop.example/g01062/impl.compareBans as a plain function, and the contract of the program's: where the plain one has an answer, the program has it. Conditions: slices read as lists. -/
namespace Go.Proofs.Ytekacbjnpeglhaa.GiCompareBans
set_option linter.unusedVariables false
set_option linter.unusedSimpArgs false
open Go.RowKit
open Go.Proofs.Ytekacbjnpeglhaa.Rowed Go.Proofs.Ytekacbjnpeglhaa.Turn Go.Proofs.Ytekacbjnpeglhaa.Aid Go.Proofs.Ytekacbjnpeglhaa.GoP Go.Proofs.Ytekacbjnpeglhaa.GoM

def P (a : Go.Proofs.Ytekacbjnpeglhaa.PBan.Ban) (b : Go.Proofs.Ytekacbjnpeglhaa.PBan.Ban) : Option (Int) :=
  unBan a fun (a_a : Int) (a_x : Int) (a_b : Int) (a_y : Int) =>
  unBan b fun (b_a : Int) (b_x : Int) (b_b : Int) (b_y : Int) =>
  Option.bind (Go.Proofs.Ytekacbjnpeglhaa.GxCmpCompareInt.P a_a b_a) fun (t_7 : Int) =>
  Option.bind (Go.Proofs.Ytekacbjnpeglhaa.GxCmpCompareInt.P a_x b_x) fun (t_12 : Int) =>
  Option.bind (Go.Proofs.Ytekacbjnpeglhaa.GxCmpCompareInt.P a_b b_b) fun (t_17 : Int) =>
  Option.bind (Go.Proofs.Ytekacbjnpeglhaa.GxCmpCompareInt.P a_y b_y) fun (t_22 : Int) =>
  letK ([t_7, t_12, t_17, t_22]) fun (t_23 : (List Int)) =>
  Option.bind (Go.Proofs.Ytekacbjnpeglhaa.GxCmpOrInt.P t_23) fun (t_24 : Int) =>
  some t_24

set_option maxRecDepth 100000 in
set_option maxHeartbeats 2000000 in
theorem C (a : Go.Proofs.Ytekacbjnpeglhaa.PBan.Ban) (b : Go.Proofs.Ytekacbjnpeglhaa.PBan.Ban)   (w : World)   {r : Int} (H : Hid (P a b = some r)) :
    Calls Try.prog 57 #[a.val, b.val] w (Gives (.int .i64 r) w) := by
  have HB := Lib.hid (Below.refl w.heap.size w)
  unfold P at H
  obtain ⟨a_a, a_x, a_b, a_y⟩ := a
  replace H := unBan_hid H
  obtain ⟨b_a, b_x, b_b, b_y⟩ := b
  replace H := unBan_hid H
  unfold Go.Proofs.Ytekacbjnpeglhaa.PBan.Ban.val
  go_enter Try.func57, Try.ntmps57
  obtain ⟨w_a_0, hw_a_0⟩ : ∃ x, w.alloc (.cells #[.int .i64 a_a, .int .i64 a_x, .int .i64 a_b, .int .i64 a_y] 57) = x := ⟨_, rfl⟩
  have bw_a_0 : Below w.heap.size w w_a_0 := by rw [← hw_a_0]; exact (Below.refl _ _).alloc (Nat.le_refl _) _
  have HBw_a_0 := Lib.hid (Below.step HB.out bw_a_0)
  clear bw_a_0
  have ka_0_0 : w_a_0.cell? ⟨w.heap.size, 0, none⟩ = some (.int .i64 a_a) := by rw [← hw_a_0]; exact box_new _ _ _ 0 _ rfl
  have ka_0_1 : w_a_0.cell? ⟨w.heap.size, 1, none⟩ = some (.int .i64 a_x) := by rw [← hw_a_0]; exact box_new _ _ _ 1 _ rfl
  have ka_0_2 : w_a_0.cell? ⟨w.heap.size, 2, none⟩ = some (.int .i64 a_b) := by rw [← hw_a_0]; exact box_new _ _ _ 2 _ rfl
  have ka_0_3 : w_a_0.cell? ⟨w.heap.size, 3, none⟩ = some (.int .i64 a_y) := by rw [← hw_a_0]; exact box_new _ _ _ 3 _ rfl
  obtain ⟨w_b_1, hw_b_1⟩ : ∃ x, w_a_0.alloc (.cells #[.int .i64 b_a, .int .i64 b_x, .int .i64 b_b, .int .i64 b_y] 57) = x := ⟨_, rfl⟩
  have bw_b_1 : Below w_a_0.heap.size w_a_0 w_b_1 := by rw [← hw_b_1]; exact (Below.refl _ _).alloc (Nat.le_refl _) _
  have HBw_b_1 := Lib.hid (Below.step HBw_a_0.out bw_b_1)
  have ka_0_0__120 := cell_below bw_b_1 ka_0_0
  have ka_0_1__121 := cell_below bw_b_1 ka_0_1
  have ka_0_2__122 := cell_below bw_b_1 ka_0_2
  have ka_0_3__123 := cell_below bw_b_1 ka_0_3
  clear bw_b_1
  have kb_1_0 : w_b_1.cell? ⟨w_a_0.heap.size, 0, none⟩ = some (.int .i64 b_a) := by rw [← hw_b_1]; exact box_new _ _ _ 0 _ rfl
  have kb_1_1 : w_b_1.cell? ⟨w_a_0.heap.size, 1, none⟩ = some (.int .i64 b_x) := by rw [← hw_b_1]; exact box_new _ _ _ 1 _ rfl
  have kb_1_2 : w_b_1.cell? ⟨w_a_0.heap.size, 2, none⟩ = some (.int .i64 b_b) := by rw [← hw_b_1]; exact box_new _ _ _ 2 _ rfl
  have kb_1_3 : w_b_1.cell? ⟨w_a_0.heap.size, 3, none⟩ = some (.int .i64 b_y) := by rw [← hw_b_1]; exact box_new _ _ _ 3 _ rfl
  go_wp2_with fail
  clear ka_0_0 ka_0_1 ka_0_2 ka_0_3
  have bd1 : Below w_b_1.heap.size w_b_1 w_b_1.drew := (Below.refl _ _).drew
  have HBw_b_1.drew := Lib.hid (Below.step HBw_b_1.out bd1)
  replace ka_0_0__120 := cell_below bd1 ka_0_0__120
  replace ka_0_1__121 := cell_below bd1 ka_0_1__121
  replace ka_0_2__122 := cell_below bd1 ka_0_2__122
  replace ka_0_3__123 := cell_below bd1 ka_0_3__123
  replace kb_1_0 := cell_below bd1 kb_1_0
  replace kb_1_1 := cell_below bd1 kb_1_1
  replace kb_1_2 := cell_below bd1 kb_1_2
  replace kb_1_3 := cell_below bd1 kb_1_3
  clear bd1
  replace H := bind_hid H
  obtain ⟨t_7, qt_7, H⟩ := H
  replace H := bind_hid H
  obtain ⟨t_12, qt_12, H⟩ := H
  replace H := bind_hid H
  obtain ⟨t_17, qt_17, H⟩ := H
  replace H := bind_hid H
  obtain ⟨t_22, qt_22, H⟩ := H
  replace H := let_hid H
  obtain ⟨t_23, ht_23, H⟩ := H
  replace H := bind_hid H
  obtain ⟨t_24, qt_24, H⟩ := H
  go_region_held3 (fun w' => w'.cell? ⟨w.heap.size, 0, none⟩ = some (.int .i64 a_a) ∧ w'.cell? ⟨w.heap.size, 1, none⟩ = some (.int .i64 a_x) ∧ w'.cell? ⟨w.heap.size, 2, none⟩ = some (.int .i64 a_b) ∧ w'.cell? ⟨w.heap.size, 3, none⟩ = some (.int .i64 a_y) ∧ w'.cell? ⟨w_a_0.heap.size, 0, none⟩ = some (.int .i64 b_a) ∧ w'.cell? ⟨w_a_0.heap.size, 1, none⟩ = some (.int .i64 b_x) ∧ w'.cell? ⟨w_a_0.heap.size, 2, none⟩ = some (.int .i64 b_b) ∧ w'.cell? ⟨w_a_0.heap.size, 3, none⟩ = some (.int .i64 b_y)) (first | exact ⟨ka_0_0__120, ka_0_1__121, ka_0_2__122, ka_0_3__123, kb_1_0, kb_1_1, kb_1_2, kb_1_3⟩ | exact ⟨ka_0_0__124, ka_0_1__125, ka_0_2__126, ka_0_3__127, kb_1_0__128, kb_1_1__129, kb_1_2__130, kb_1_3__131⟩)
      (first
        | (go_at_call 91
           refine (Go.Proofs.Ytekacbjnpeglhaa.GxCmpCompareInt.C (a_a) (b_a)  _    qt_7).mono ?_
           rintro e_t_7 wt_7 ⟨rfl, bt_7⟩
           have HBwt_7 := Lib.hid (Below.step HBw_b_1.drew.out bt_7)
           replace ka_0_0__120 := cell_below bt_7 ka_0_0__120
           replace ka_0_1__121 := cell_below bt_7 ka_0_1__121
           replace ka_0_2__122 := cell_below bt_7 ka_0_2__122
           replace ka_0_3__123 := cell_below bt_7 ka_0_3__123
           replace kb_1_0 := cell_below bt_7 kb_1_0
           replace kb_1_1 := cell_below bt_7 kb_1_1
           replace kb_1_2 := cell_below bt_7 kb_1_2
           replace kb_1_3 := cell_below bt_7 kb_1_3
           clear bt_7
           clear qt_7)
        | (go_at_call 91
           refine (Go.Proofs.Ytekacbjnpeglhaa.GxCmpCompareInt.C (a_x) (b_x)  _    qt_12).mono ?_
           rintro e_t_12 wt_12 ⟨rfl, bt_12⟩
           have HBwt_12 := Lib.hid (Below.step HBwt_7.out bt_12)
           replace ka_0_0__120 := cell_below bt_12 ka_0_0__120
           replace ka_0_1__121 := cell_below bt_12 ka_0_1__121
           replace ka_0_2__122 := cell_below bt_12 ka_0_2__122
           replace ka_0_3__123 := cell_below bt_12 ka_0_3__123
           replace kb_1_0 := cell_below bt_12 kb_1_0
           replace kb_1_1 := cell_below bt_12 kb_1_1
           replace kb_1_2 := cell_below bt_12 kb_1_2
           replace kb_1_3 := cell_below bt_12 kb_1_3
           clear bt_12
           clear qt_12)
        | (go_at_call 91
           refine (Go.Proofs.Ytekacbjnpeglhaa.GxCmpCompareInt.C (a_b) (b_b)  _    qt_17).mono ?_
           rintro e_t_17 wt_17 ⟨rfl, bt_17⟩
           have HBwt_17 := Lib.hid (Below.step HBwt_12.out bt_17)
           replace ka_0_0__120 := cell_below bt_17 ka_0_0__120
           replace ka_0_1__121 := cell_below bt_17 ka_0_1__121
           replace ka_0_2__122 := cell_below bt_17 ka_0_2__122
           replace ka_0_3__123 := cell_below bt_17 ka_0_3__123
           replace kb_1_0 := cell_below bt_17 kb_1_0
           replace kb_1_1 := cell_below bt_17 kb_1_1
           replace kb_1_2 := cell_below bt_17 kb_1_2
           replace kb_1_3 := cell_below bt_17 kb_1_3
           clear bt_17
           clear qt_17)
        | (go_at_call 91
           refine (Go.Proofs.Ytekacbjnpeglhaa.GxCmpCompareInt.C (a_y) (b_y)  _    qt_22).mono ?_
           rintro e_t_22 wt_22 ⟨rfl, bt_22⟩
           have HBwt_22 := Lib.hid (Below.step HBwt_17.out bt_22)
           replace ka_0_0__120 := cell_below bt_22 ka_0_0__120
           replace ka_0_1__121 := cell_below bt_22 ka_0_1__121
           replace ka_0_2__122 := cell_below bt_22 ka_0_2__122
           replace ka_0_3__123 := cell_below bt_22 ka_0_3__123
           replace kb_1_0 := cell_below bt_22 kb_1_0
           replace kb_1_1 := cell_below bt_22 kb_1_1
           replace kb_1_2 := cell_below bt_22 kb_1_2
           replace kb_1_3 := cell_below bt_22 kb_1_3
           clear bt_22
           clear qt_22
           obtain ⟨w_t_23, hw_t_23⟩ : ∃ x, wt_22.alloc (.cells #[.int .i64 t_7, .int .i64 t_12, .int .i64 t_17, .int .i64 t_22] 3) = x := ⟨_, rfl⟩
           have bw_t_23 : Below wt_22.heap.size wt_22 w_t_23 := by rw [← hw_t_23]; exact (Below.refl _ _).alloc (Nat.le_refl _) _
           have hs_t_23 := HBwt_22.out.size
           have nt_23 : t_23.length = 4 := by rw [← ht_23]; rfl
           have Ot_23 : Hid (w_t_23.ownsRow w.heap.size 3 1 (.slice (some ⟨wt_22.heap.size, 0, none⟩) 4 4) 4 (Go.Proofs.Ytekacbjnpeglhaa.HelpInt.iv t_23)) := by
             rw [← hw_t_23, ← ht_23]
             have e_ : ([.int .i64 t_7, .int .i64 t_12, .int .i64 t_17, .int .i64 t_22] : List Value) = (Go.Proofs.Ytekacbjnpeglhaa.HelpInt.iv ([t_7, t_12, t_17, t_22] : List Int)) := rfl
             exact Lib.hid (own_laid (n := 4) hs_t_23 e_ rfl (by unfold maxLen; omega))
           clear hs_t_23
           have hht_23 := Lib.hid ht_23
           clear ht_23
           replace nt_23 := Lib.hid nt_23
           have Dt_23_a_0 := Lib.hid (apart_box ka_0_0__120)
           have Dt_23_b_1 := Lib.hid (apart_box kb_1_0)
           have HBw_t_23 := Lib.hid (Below.step HBwt_22.out bw_t_23)
           have ka_0_0__124 := cell_below bw_t_23 ka_0_0__120
           have ka_0_1__125 := cell_below bw_t_23 ka_0_1__121
           have ka_0_2__126 := cell_below bw_t_23 ka_0_2__122
           have ka_0_3__127 := cell_below bw_t_23 ka_0_3__123
           have kb_1_0__128 := cell_below bw_t_23 kb_1_0
           have kb_1_1__129 := cell_below bw_t_23 kb_1_1
           have kb_1_2__130 := cell_below bw_t_23 kb_1_2
           have kb_1_3__131 := cell_below bw_t_23 kb_1_3
           clear bw_t_23)
        | (have hc0_ := nt_23.out
           have Oct_24_1 := Lib.hid (own_len hc0_ Ot_23.out)
           have con_ := Go.Proofs.Ytekacbjnpeglhaa.GxCmpOrInt.C (t_23) (some ⟨wt_22.heap.size, 0, none⟩) 4 _   (Lib.hid (own_cells Oct_24_1.out)) (Lib.hid (own_max Oct_24_1.out)) qt_24
           rw [hc0_] at con_
           clear hc0_ Oct_24_1
           go_at_call 90
           refine con_.mono ?_
           rintro e_t_24 wt_24 ⟨rfl, bt_24⟩
           have HBwt_24 := Lib.hid (Below.step HBw_t_23.out bt_24)
           replace ka_0_0__124 := cell_below bt_24 ka_0_0__124
           replace ka_0_1__125 := cell_below bt_24 ka_0_1__125
           replace ka_0_2__126 := cell_below bt_24 ka_0_2__126
           replace ka_0_3__127 := cell_below bt_24 ka_0_3__127
           replace kb_1_0__128 := cell_below bt_24 kb_1_0__128
           replace kb_1_1__129 := cell_below bt_24 kb_1_1__129
           replace kb_1_2__130 := cell_below bt_24 kb_1_2__130
           replace kb_1_3__131 := cell_below bt_24 kb_1_3__131
           replace Ot_23 := Lib.hid (own_below Ot_23.out bt_24)
           clear bt_24
           clear qt_24))
  try clear ka_0_0__120
  try clear ka_0_1__121
  try clear ka_0_2__122
  try clear ka_0_3__123
  try clear kb_1_0
  try clear kb_1_1
  try clear kb_1_2
  try clear kb_1_3
  obtain rfl := ret_hid H
  go_wp2_with fail
  go_ret
  exact ⟨rfl, HBwt_24.out⟩
end Go.Proofs.Ytekacbjnpeglhaa.GiCompareBans

/- loop.example/g01062/impl.IsKindTable as a plain function, and the contract of the program's: where the plain one has an answer, the program has it. Conditions: slices read as lists. -/
namespace Go.Proofs.Ytekacbjnpeglhaa.GiIsKindTable
set_option linter.unusedVariables false
set_option linter.unusedSimpArgs false
open Go.RowKit
open Go.Proofs.Ytekacbjnpeglhaa.Rowed Go.Proofs.Ytekacbjnpeglhaa.Turn Go.Proofs.Ytekacbjnpeglhaa.Aid Go.Proofs.Ytekacbjnpeglhaa.GoP Go.Proofs.Ytekacbjnpeglhaa.GoM

def l0 (t_sizes : (List Int)) (k0 : Nat) (s : Unit) (nx0 bk0 : Unit → Option (Bool)) : Option (Bool) :=
  
  Option.bind (idx t_sizes (k0 : Int)) fun (yt_19 : Int) =>
  Option.bind (Go.Proofs.Ytekacbjnpeglhaa.GiWithin.P yt_19 1 5) fun (t_23 : Bool) =>
  letK (!t_23) fun (t_24 : Bool) =>
  iteK t_24
  (some false)
  (appK nx0 ())

def l1 (t_sizes : (List Int)) (t_bans : (List Go.Proofs.Ytekacbjnpeglhaa.PBan.Ban)) (k1 : Nat) (s : Unit) (nx1 bk1 : Unit → Option (Bool)) : Option (Bool) :=
  
  Option.bind (idx t_bans (k1 : Int)) fun (yt_34 : Go.Proofs.Ytekacbjnpeglhaa.PBan.Ban) =>
  unBan yt_34 fun (t_34_a : Int) (t_34_x : Int) (t_34_b : Int) (t_34_y : Int) =>
  Option.bind (Go.Proofs.Ytekacbjnpeglhaa.GiIsBan.P t_sizes (Go.Proofs.Ytekacbjnpeglhaa.PBan.Ban.mk t_34_a t_34_x t_34_b t_34_y)) fun (t_42 : Bool) =>
  letK (!t_42) fun (t_43 : Bool) =>
  joinK (fun (t_58 : Bool) =>
  iteK t_58
  (some false)
  (appK nx1 ())) fun jt_58 => iteK t_43 (appK jt_58 true) (letK (decide (0 < (k1 : Int))) fun (t_46 : Bool) =>
  joinK (fun (t_57 : Bool) =>
  appK jt_58 t_57) fun jt_57 => iteK t_46 (letK (IntKind.i64.wrap ((k1 : Int) - 1)) fun (t_51 : Int) =>
  Option.bind (idx t_bans t_51) fun (yt_52 : Go.Proofs.Ytekacbjnpeglhaa.PBan.Ban) =>
  unBan yt_52 fun (t_52_a : Int) (t_52_x : Int) (t_52_b : Int) (t_52_y : Int) =>
  Option.bind (Go.Proofs.Ytekacbjnpeglhaa.GiCompareBans.P (Go.Proofs.Ytekacbjnpeglhaa.PBan.Ban.mk t_52_a t_52_x t_52_b t_52_y) (Go.Proofs.Ytekacbjnpeglhaa.PBan.Ban.mk t_34_a t_34_x t_34_b t_34_y)) fun (t_55 : Int) =>
  letK (decide (0 ≤ t_55)) fun (t_56 : Bool) =>
  appK jt_57 t_56) (appK jt_57 false))

def e1  (s : Unit) : Option (Bool) :=
  
  some true

def e0 (t_sizes : (List Int)) (t_bans : (List Go.Proofs.Ytekacbjnpeglhaa.PBan.Ban)) (s : Unit) : Option (Bool) :=
  
  cntK (l1 t_sizes t_bans) (t_bans.length) 0 () (e1 )

def P (t_sizes : (List Int)) (t_bans : (List Go.Proofs.Ytekacbjnpeglhaa.PBan.Ban)) : Option (Bool) :=
  Option.bind (Go.Proofs.Ytekacbjnpeglhaa.GiWithin.P (t_sizes.length : Int) 1 5) fun (t_5 : Bool) =>
  letK (!t_5) fun (t_6 : Bool) =>
  joinK (fun (t_12 : Bool) =>
  iteK t_12
  (some false)
  (cntK (l0 t_sizes) (t_sizes.length) 0 () (e0 t_sizes t_bans))) fun jt_12 => iteK t_6 (appK jt_12 true) (letK (decide (20 < (t_bans.length : Int))) fun (t_11 : Bool) =>
  appK jt_12 t_11)

set_option maxRecDepth 100000 in
set_option maxHeartbeats 2000000 in
theorem C (t_sizes : (List Int)) (t_bans : (List Go.Proofs.Ytekacbjnpeglhaa.PBan.Ban)) (A0_0 : Option Addr) (c0_0 : Nat) (A0_1 : Option Addr) (c0_1 : Nat)  (w : World) (M0_0 : Hid (Cells w 1 A0_0 t_sizes.length (Go.Proofs.Ytekacbjnpeglhaa.HelpInt.iv t_sizes))) (N0_0 : Hid (t_sizes.length ≤ 9223372036854775807)) (M0_1 : Hid (Cells w 4 A0_1 t_bans.length (Go.Proofs.Ytekacbjnpeglhaa.PBan.flat t_bans))) (N0_1 : Hid (t_bans.length ≤ 9223372036854775807))  {r : Bool} (H : Hid (P t_sizes t_bans = some r)) :
    Calls Try.prog 16 #[.agg #[.slice A0_0 t_sizes.length c0_0, .slice A0_1 t_bans.length c0_1]] w (Gives (.bool r) w) := by
  have HB := Lib.hid (Below.refl w.heap.size w)
  unfold P at H
  have N0_0o := N0_0.out
  have N0_1o := N0_1.out
  go_enter Try.func16, Try.ntmps16
  obtain ⟨w_t_0, hw_t_0⟩ : ∃ x, w.alloc (.cells #[.slice A0_0 t_sizes.length c0_0, .slice A0_1 t_bans.length c0_1] 30) = x := ⟨_, rfl⟩
  have bw_t_0 : Below w.heap.size w w_t_0 := by rw [← hw_t_0]; exact (Below.refl _ _).alloc (Nat.le_refl _) _
  have HBw_t_0 := Lib.hid (Below.step HB.out bw_t_0)
  clear bw_t_0
  have kt_0_0 : w_t_0.cell? ⟨w.heap.size, 0, none⟩ = some (.slice A0_0 t_sizes.length c0_0) := by rw [← hw_t_0]; exact box_new _ _ _ 0 _ rfl
  have kt_0_1 : w_t_0.cell? ⟨w.heap.size, 1, none⟩ = some (.slice A0_1 t_bans.length c0_1) := by rw [← hw_t_0]; exact box_new _ _ _ 1 _ rfl
  replace H := bind_hid H
  obtain ⟨t_5, qt_5, H⟩ := H
  go_wp2_with fail
  go_at_call 55
  refine (Go.Proofs.Ytekacbjnpeglhaa.GiWithin.C ((t_sizes.length : Int)) (1) (5)  _    qt_5).mono ?_
  rintro e_t_5 wt_5 ⟨rfl, bt_5⟩
  have HBwt_5 := Lib.hid (Below.step HBw_t_0.out bt_5)
  replace kt_0_0 := cell_below bt_5 kt_0_0
  replace kt_0_1 := cell_below bt_5 kt_0_1
  clear bt_5
  cases t_5 with
  | false =>
    replace H := let_hid H
    obtain ⟨t_6, ht_6, H⟩ := H
    obtain rfl : t_6 = true := ht_6.symm
    replace H := join_hid H
    replace H := ite_t H
    replace H := app_hid H
    replace H := ite_t H
    obtain rfl := ret_hid H
    go_wp2_with fail
    go_ret
    exact ⟨rfl, HBwt_5.out⟩
  | true =>
    replace H := let_hid H
    obtain ⟨t_6, ht_6, H⟩ := H
    obtain rfl : t_6 = false := ht_6.symm
    replace H := join_hid H
    replace H := ite_f H
    replace H := let_hid H
    obtain ⟨t_11, ht_11, H⟩ := H
    replace H := app_hid H
    cases t_11 with
    | false =>
      have nht_11 : ¬ (20 < t_bans.length) := by have := of_decide_eq_false ht_11; omega
      replace H := ite_f H
      go_wp2_with fail
      go_loopg [21] (t_sizes.length) (fun m_ v21_ wr => ∃ (k0 : Nat) , k0 + m_ = t_sizes.length ∧ v21_ = .int .i64 (k0 : Int) ∧ Hid (cntK (l0 t_sizes) m_ k0 () (e0 t_sizes t_bans) = some r) ∧ Hid (Below w.heap.size w wr) ∧ wr.cell? ⟨w.heap.size, 0, none⟩ = some (.slice A0_0 t_sizes.length c0_0) ∧ wr.cell? ⟨w.heap.size, 1, none⟩ = some (.slice A0_1 t_bans.length c0_1))
      case atStart => exact ⟨0, by omega, rfl, H, HBwt_5, kt_0_0, kt_0_1⟩
      case round =>
        obtain ⟨k0, hkm0, rfl, H, HBwr0, kt_0_0, kt_0_1⟩ := hrel
        rename World => wr0
        cases gk with
        | zero =>
          obtain rfl : k0 = t_sizes.length := by omega
          have hc0 : decide (((t_sizes.length : Nat) : Int) < ((t_sizes.length : Nat) : Int)) = false := by simp
          replace H := cnt_zero H
          unfold e0 at H
          go_wp2_with fail
          go_loopg [32] (t_bans.length) (fun m_ v32_ wr => ∃ (k1 : Nat) , k1 + m_ = t_bans.length ∧ v32_ = .int .i64 (k1 : Int) ∧ Hid (cntK (l1 t_sizes t_bans) m_ k1 () (e1 ) = some r) ∧ Hid (Below w.heap.size w wr) ∧ wr.cell? ⟨w.heap.size, 0, none⟩ = some (.slice A0_0 t_sizes.length c0_0) ∧ wr.cell? ⟨w.heap.size, 1, none⟩ = some (.slice A0_1 t_bans.length c0_1))
          case atStart => exact ⟨0, by omega, rfl, H, HBwr0, kt_0_0, kt_0_1⟩
          case round =>
            obtain ⟨k1, hkm1, rfl, H, HBwr1, kt_0_0, kt_0_1⟩ := hrel
            rename World => wr1
            cases gk with
            | zero =>
              obtain rfl : k1 = t_bans.length := by omega
              have hc1 : decide (((t_bans.length : Nat) : Int) < ((t_bans.length : Nat) : Int)) = false := by simp
              replace H := cnt_zero H
              unfold e1 at H
              obtain rfl := ret_hid H
              go_wp2_with fail
              go_ret
              exact ⟨rfl, HBwr1.out⟩
            | succ m1 =>
              have hlt1 : k1 < t_bans.length := by omega
              have hc1 : decide ((k1 : Int) < ((t_bans.length : Nat) : Int)) = true := by simp; omega
              replace H := cnt_succ H
              unfold l1 at H
              replace H := idx_hid H
              obtain ⟨nt_34, yt_34, et_34, lt_34, gt_34, H⟩ := H
              obtain rfl : k1 = nt_34 := by omega
              clear et_34
              obtain ⟨t_34_a, t_34_x, t_34_b, t_34_y⟩ := yt_34
              replace H := unBan_hid H
              obtain ⟨ab_t_34, ao_t_34, zt_34, At_34, z_t_34, ct_34_0, ct_34_1, ct_34_2, ct_34_3⟩ := Go.Proofs.Ytekacbjnpeglhaa.OBan.at_ M0_1.out lt_34
              obtain rfl := Option.some.inj (gt_34.out.symm.trans z_t_34)
              subst At_34
              have ltt_34 := cell_lt ct_34_0
              replace ct_34_0 := cell_below HBwr1.out ct_34_0
              replace ct_34_1 := cell_below HBwr1.out ct_34_1
              replace ct_34_2 := cell_below HBwr1.out ct_34_2
              replace ct_34_3 := cell_below HBwr1.out ct_34_3
              clear z_t_34
              have b0t_34 : (0 : Int) ≤ (k1 : Int) := by omega
              have b1t_34 : (k1 : Int) < ((t_bans.length : Nat) : Int) := by omega
              have b2t_34 : ((k1 : Int)).toNat = k1 := by omega
              obtain ⟨w_b_36, hw_b_36⟩ : ∃ x, wr1.alloc (.cells #[.int .i64 t_34_a, .int .i64 t_34_x, .int .i64 t_34_b, .int .i64 t_34_y] 57) = x := ⟨_, rfl⟩
              have bw_b_36 : Below wr1.heap.size wr1 w_b_36 := by rw [← hw_b_36]; exact (Below.refl _ _).alloc (Nat.le_refl _) _
              have HBw_b_36 := Lib.hid (Below.step HBwr1.out bw_b_36)
              have kt_0_0__132 := cell_below bw_b_36 kt_0_0
              have kt_0_1__133 := cell_below bw_b_36 kt_0_1
              have ct_34_0__134 := cell_below bw_b_36 ct_34_0
              have ct_34_1__135 := cell_below bw_b_36 ct_34_1
              have ct_34_2__136 := cell_below bw_b_36 ct_34_2
              have ct_34_3__137 := cell_below bw_b_36 ct_34_3
              clear bw_b_36
              have kb_36_0 : w_b_36.cell? ⟨wr1.heap.size, 0, none⟩ = some (.int .i64 t_34_a) := by rw [← hw_b_36]; exact box_new _ _ _ 0 _ rfl
              have kb_36_1 : w_b_36.cell? ⟨wr1.heap.size, 1, none⟩ = some (.int .i64 t_34_x) := by rw [← hw_b_36]; exact box_new _ _ _ 1 _ rfl
              have kb_36_2 : w_b_36.cell? ⟨wr1.heap.size, 2, none⟩ = some (.int .i64 t_34_b) := by rw [← hw_b_36]; exact box_new _ _ _ 2 _ rfl
              have kb_36_3 : w_b_36.cell? ⟨wr1.heap.size, 3, none⟩ = some (.int .i64 t_34_y) := by rw [← hw_b_36]; exact box_new _ _ _ 3 _ rfl
              go_wp2_with fail
              clear kt_0_0 kt_0_1 ct_34_0 ct_34_1 ct_34_2 ct_34_3
              have Hkt_0_0__132 := Lib.hid kt_0_0__132
              replace kt_0_0__132 := cell_regrown kt_0_0__132
              have Hkt_0_1__133 := Lib.hid kt_0_1__133
              replace kt_0_1__133 := cell_regrown kt_0_1__133
              have Hct_34_0__134 := Lib.hid ct_34_0__134
              replace ct_34_0__134 := cell_regrown ct_34_0__134
              have Hct_34_1__135 := Lib.hid ct_34_1__135
              replace ct_34_1__135 := cell_regrown ct_34_1__135
              have Hct_34_2__136 := Lib.hid ct_34_2__136
              replace ct_34_2__136 := cell_regrown ct_34_2__136
              have Hct_34_3__137 := Lib.hid ct_34_3__137
              replace ct_34_3__137 := cell_regrown ct_34_3__137
              have Hkb_36_0 := Lib.hid kb_36_0
              replace kb_36_0 := cell_regrown kb_36_0
              have Hkb_36_1 := Lib.hid kb_36_1
              replace kb_36_1 := cell_regrown kb_36_1
              have Hkb_36_2 := Lib.hid kb_36_2
              replace kb_36_2 := cell_regrown kb_36_2
              have Hkb_36_3 := Lib.hid kb_36_3
              replace kb_36_3 := cell_regrown kb_36_3
              replace H := bind_hid H
              obtain ⟨t_42, qt_42, H⟩ := H
              have nt_42 : ∀ d os, Calls Try.prog 56 #[.slice A0_0 t_sizes.length c0_0, .agg #[.int .i64 t_34_a, .int .i64 t_34_x, .int .i64 t_34_b, .int .i64 t_34_y]] (Go.Sort.grow (redrawn w_b_36 d) os) fun e w'' => e = .returned (.bool t_42) ∧ ∃ p : Regrown, w'' = Go.Sort.grow (redrawn w_b_36 p.d) p.os := fun d os => Calls.regrown_of (Go.Proofs.Ytekacbjnpeglhaa.GiIsBan.C (t_sizes) ((Go.Proofs.Ytekacbjnpeglhaa.PBan.Ban.mk t_34_a t_34_x t_34_b t_34_y)) A0_0 c0_0 _   (Lib.hid (Cells.below (Cells.below M0_0.out HBw_b_36.out) (below_regrown _ _ _))) N0_0 qt_42)
              cases t_42 with
              | false =>
                replace H := let_hid H
                obtain ⟨t_43, ht_43, H⟩ := H
                obtain rfl : t_43 = true := ht_43.symm
                replace H := join_hid H
                replace H := ite_t H
                replace H := app_hid H
                refine wp_region_quiet_below (by kernel_rfl) (by kernel_rfl) ?_
                repeat (go_big_quiet_step (first | (go_at_call 56; exact nt_42 _ _)))
                refine wpQuiet_nil ?_
                intro Y12 hY12
                replace hY12 := below_class hY12
                clear nt_42
                replace kt_0_0__132 := Hkt_0_0__132.out
                clear Hkt_0_0__132
                replace kt_0_1__133 := Hkt_0_1__133.out
                clear Hkt_0_1__133
                replace ct_34_0__134 := Hct_34_0__134.out
                clear Hct_34_0__134
                replace ct_34_1__135 := Hct_34_1__135.out
                clear Hct_34_1__135
                replace ct_34_2__136 := Hct_34_2__136.out
                clear Hct_34_2__136
                replace ct_34_3__137 := Hct_34_3__137.out
                clear Hct_34_3__137
                replace kb_36_0 := Hkb_36_0.out
                clear Hkb_36_0
                replace kb_36_1 := Hkb_36_1.out
                clear Hkb_36_1
                replace kb_36_2 := Hkb_36_2.out
                clear Hkb_36_2
                replace kb_36_3 := Hkb_36_3.out
                clear Hkb_36_3
                have HBY12 := Lib.hid (Below.step HBw_b_36.out hY12)
                replace kt_0_0__132 := cell_below hY12 kt_0_0__132
                replace kt_0_1__133 := cell_below hY12 kt_0_1__133
                replace ct_34_0__134 := cell_below hY12 ct_34_0__134
                replace ct_34_1__135 := cell_below hY12 ct_34_1__135
                replace ct_34_2__136 := cell_below hY12 ct_34_2__136
                replace ct_34_3__137 := cell_below hY12 ct_34_3__137
                replace kb_36_0 := cell_below hY12 kb_36_0
                replace kb_36_1 := cell_below hY12 kb_36_1
                replace kb_36_2 := cell_below hY12 kb_36_2
                replace kb_36_3 := cell_below hY12 kb_36_3
                clear hY12
                replace H := ite_t H
                obtain rfl := ret_hid H
                go_wp2_with fail
                go_ret
                exact ⟨rfl, HBY12.out⟩
              | true =>
                replace H := let_hid H
                obtain ⟨t_43, ht_43, H⟩ := H
                obtain rfl : t_43 = false := ht_43.symm
                replace H := join_hid H
                replace H := ite_f H
                replace H := let_hid H
                obtain ⟨t_46, ht_46, H⟩ := H
                replace H := join_hid H
                cases t_46 with
                | false =>
                  have nht_46 : ¬ (0 < k1) := by have := of_decide_eq_false ht_46; omega
                  replace H := ite_f H
                  replace H := app_hid H
                  replace H := app_hid H
                  refine wp_region_quiet_below (by kernel_rfl) (by kernel_rfl) ?_
                  repeat (go_big_quiet_step (first | (go_at_call 56; exact nt_42 _ _)))
                  refine wpQuiet_nil ?_
                  intro Y12 hY12
                  replace hY12 := below_class hY12
                  clear nt_42
                  replace kt_0_0__132 := Hkt_0_0__132.out
                  clear Hkt_0_0__132
                  replace kt_0_1__133 := Hkt_0_1__133.out
                  clear Hkt_0_1__133
                  replace ct_34_0__134 := Hct_34_0__134.out
                  clear Hct_34_0__134
                  replace ct_34_1__135 := Hct_34_1__135.out
                  clear Hct_34_1__135
                  replace ct_34_2__136 := Hct_34_2__136.out
                  clear Hct_34_2__136
                  replace ct_34_3__137 := Hct_34_3__137.out
                  clear Hct_34_3__137
                  replace kb_36_0 := Hkb_36_0.out
                  clear Hkb_36_0
                  replace kb_36_1 := Hkb_36_1.out
                  clear Hkb_36_1
                  replace kb_36_2 := Hkb_36_2.out
                  clear Hkb_36_2
                  replace kb_36_3 := Hkb_36_3.out
                  clear Hkb_36_3
                  have HBY12 := Lib.hid (Below.step HBw_b_36.out hY12)
                  replace kt_0_0__132 := cell_below hY12 kt_0_0__132
                  replace kt_0_1__133 := cell_below hY12 kt_0_1__133
                  replace ct_34_0__134 := cell_below hY12 ct_34_0__134
                  replace ct_34_1__135 := cell_below hY12 ct_34_1__135
                  replace ct_34_2__136 := cell_below hY12 ct_34_2__136
                  replace ct_34_3__137 := cell_below hY12 ct_34_3__137
                  replace kb_36_0 := cell_below hY12 kb_36_0
                  replace kb_36_1 := cell_below hY12 kb_36_1
                  replace kb_36_2 := cell_below hY12 kb_36_2
                  replace kb_36_3 := cell_below hY12 kb_36_3
                  clear hY12
                  replace H := ite_f H
                  replace H := app_hid H
                  go_wp2_with fail
                  go_roundg m1
                  case measure => omega
                  case rel => exact ⟨k1 + 1, by omega, by go_num, H, HBY12, kt_0_0__132, kt_0_1__133⟩
                | true =>
                  have nht_46 : 0 < k1 := by have := of_decide_eq_true ht_46; omega
                  replace H := ite_t H
                  replace H := let_hid H
                  obtain ⟨t_51, ht_51, H⟩ := H
                  replace H := idx_hid H
                  obtain ⟨nt_52, yt_52, et_52, lt_52, gt_52, H⟩ := H
                  subst et_52
                  obtain ⟨t_52_a, t_52_x, t_52_b, t_52_y⟩ := yt_52
                  replace H := unBan_hid H
                  obtain ⟨ab_t_52, ao_t_52, zt_52, At_52, z_t_52, ct_52_0, ct_52_1, ct_52_2, ct_52_3⟩ := Go.Proofs.Ytekacbjnpeglhaa.OBan.at_ M0_1.out lt_52
                  obtain rfl := Option.some.inj (gt_52.out.symm.trans z_t_52)
                  simp only [Option.some.injEq, Addr.mk.injEq] at At_52
                  obtain ⟨rfl, rfl, _⟩ := At_52
                  have ltt_52 := cell_lt ct_52_0
                  replace ct_52_0 := cell_below HBw_b_36.out ct_52_0
                  replace ct_52_1 := cell_below HBw_b_36.out ct_52_1
                  replace ct_52_2 := cell_below HBw_b_36.out ct_52_2
                  replace ct_52_3 := cell_below HBw_b_36.out ct_52_3
                  clear z_t_52
                  have b0t_52 : (0 : Int) ≤ (nt_52 : Int) := by omega
                  have b1t_52 : (nt_52 : Int) < ((t_bans.length : Nat) : Int) := by omega
                  have b2t_52 : ((nt_52 : Int)).toNat = nt_52 := by omega
                  have Hct_52_0 := Lib.hid ct_52_0
                  replace ct_52_0 := cell_regrown ct_52_0
                  have Hct_52_1 := Lib.hid ct_52_1
                  replace ct_52_1 := cell_regrown ct_52_1
                  have Hct_52_2 := Lib.hid ct_52_2
                  replace ct_52_2 := cell_regrown ct_52_2
                  have Hct_52_3 := Lib.hid ct_52_3
                  replace ct_52_3 := cell_regrown ct_52_3
                  replace H := bind_hid H
                  obtain ⟨t_55, qt_55, H⟩ := H
                  have nt_55 : ∀ d os, Calls Try.prog 57 #[.agg #[.int .i64 t_52_a, .int .i64 t_52_x, .int .i64 t_52_b, .int .i64 t_52_y], .agg #[.int .i64 t_34_a, .int .i64 t_34_x, .int .i64 t_34_b, .int .i64 t_34_y]] (Go.Sort.grow (redrawn w_b_36 d) os) fun e w'' => e = .returned (.int .i64 t_55) ∧ ∃ p : Regrown, w'' = Go.Sort.grow (redrawn w_b_36 p.d) p.os := fun d os => Calls.regrown_of (Go.Proofs.Ytekacbjnpeglhaa.GiCompareBans.C ((Go.Proofs.Ytekacbjnpeglhaa.PBan.Ban.mk t_52_a t_52_x t_52_b t_52_y)) ((Go.Proofs.Ytekacbjnpeglhaa.PBan.Ban.mk t_34_a t_34_x t_34_b t_34_y))  _    qt_55)
                  replace H := let_hid H
                  obtain ⟨t_56, ht_56, H⟩ := H
                  replace H := app_hid H
                  replace H := app_hid H
                  refine wp_region_quiet_below (by kernel_rfl) (by kernel_rfl) ?_
                  repeat (go_big_quiet_step (first | (go_at_call 56; exact nt_42 _ _) | (go_at_call 57; exact nt_55 _ _)))
                  refine wpQuiet_nil ?_
                  intro Y12 hY12
                  replace hY12 := below_class hY12
                  clear nt_42 nt_55
                  replace kt_0_0__132 := Hkt_0_0__132.out
                  clear Hkt_0_0__132
                  replace kt_0_1__133 := Hkt_0_1__133.out
                  clear Hkt_0_1__133
                  replace ct_34_0__134 := Hct_34_0__134.out
                  clear Hct_34_0__134
                  replace ct_34_1__135 := Hct_34_1__135.out
                  clear Hct_34_1__135
                  replace ct_34_2__136 := Hct_34_2__136.out
                  clear Hct_34_2__136
                  replace ct_34_3__137 := Hct_34_3__137.out
                  clear Hct_34_3__137
                  replace kb_36_0 := Hkb_36_0.out
                  clear Hkb_36_0
                  replace kb_36_1 := Hkb_36_1.out
                  clear Hkb_36_1
                  replace kb_36_2 := Hkb_36_2.out
                  clear Hkb_36_2
                  replace kb_36_3 := Hkb_36_3.out
                  clear Hkb_36_3
                  replace ct_52_0 := Hct_52_0.out
                  clear Hct_52_0
                  replace ct_52_1 := Hct_52_1.out
                  clear Hct_52_1
                  replace ct_52_2 := Hct_52_2.out
                  clear Hct_52_2
                  replace ct_52_3 := Hct_52_3.out
                  clear Hct_52_3
                  have HBY12 := Lib.hid (Below.step HBw_b_36.out hY12)
                  replace kt_0_0__132 := cell_below hY12 kt_0_0__132
                  replace kt_0_1__133 := cell_below hY12 kt_0_1__133
                  replace ct_34_0__134 := cell_below hY12 ct_34_0__134
                  replace ct_34_1__135 := cell_below hY12 ct_34_1__135
                  replace ct_34_2__136 := cell_below hY12 ct_34_2__136
                  replace ct_34_3__137 := cell_below hY12 ct_34_3__137
                  replace kb_36_0 := cell_below hY12 kb_36_0
                  replace kb_36_1 := cell_below hY12 kb_36_1
                  replace kb_36_2 := cell_below hY12 kb_36_2
                  replace kb_36_3 := cell_below hY12 kb_36_3
                  replace ct_52_0 := cell_below hY12 ct_52_0
                  replace ct_52_1 := cell_below hY12 ct_52_1
                  replace ct_52_2 := cell_below hY12 ct_52_2
                  replace ct_52_3 := cell_below hY12 ct_52_3
                  clear hY12
                  cases t_56 with
                  | false =>
                    replace H := ite_f H
                    replace H := app_hid H
                    go_wp2_with fail
                    go_roundg m1
                    case measure => omega
                    case rel => exact ⟨k1 + 1, by omega, by go_num, H, HBY12, kt_0_0__132, kt_0_1__133⟩
                  | true =>
                    replace H := ite_t H
                    obtain rfl := ret_hid H
                    go_wp2_with fail
                    go_ret
                    exact ⟨rfl, HBY12.out⟩
        | succ m0 =>
          have hlt0 : k0 < t_sizes.length := by omega
          have hc0 : decide ((k0 : Int) < ((t_sizes.length : Nat) : Int)) = true := by simp; omega
          replace H := cnt_succ H
          unfold l0 at H
          replace H := idx_hid H
          obtain ⟨nt_19, yt_19, et_19, lt_19, gt_19, H⟩ := H
          obtain rfl : k0 = nt_19 := by omega
          clear et_19
          obtain ⟨ab_t_19, ao_t_19, zt_19, At_19, z_t_19, ct_19_0⟩ := Go.Proofs.Ytekacbjnpeglhaa.HelpInt.Ints.at_ M0_0.out lt_19
          obtain rfl := Option.some.inj (gt_19.out.symm.trans z_t_19)
          subst At_19
          have ltt_19 := cell_lt ct_19_0
          replace ct_19_0 := cell_below HBwr0.out ct_19_0
          clear z_t_19
          have b0t_19 : (0 : Int) ≤ (k0 : Int) := by omega
          have b1t_19 : (k0 : Int) < ((t_sizes.length : Nat) : Int) := by omega
          have b2t_19 : ((k0 : Int)).toNat = k0 := by omega
          replace H := bind_hid H
          obtain ⟨t_23, qt_23, H⟩ := H
          go_wp2_with fail
          go_at_call 55
          refine (Go.Proofs.Ytekacbjnpeglhaa.GiWithin.C (yt_19) (1) (5)  _    qt_23).mono ?_
          rintro e_t_23 wt_23 ⟨rfl, bt_23⟩
          have HBwt_23 := Lib.hid (Below.step HBwr0.out bt_23)
          replace kt_0_0 := cell_below bt_23 kt_0_0
          replace kt_0_1 := cell_below bt_23 kt_0_1
          replace ct_19_0 := cell_below bt_23 ct_19_0
          clear bt_23
          cases t_23 with
          | false =>
            replace H := let_hid H
            obtain ⟨t_24, ht_24, H⟩ := H
            obtain rfl : t_24 = true := ht_24.symm
            replace H := ite_t H
            obtain rfl := ret_hid H
            go_wp2_with fail
            go_ret
            exact ⟨rfl, HBwt_23.out⟩
          | true =>
            replace H := let_hid H
            obtain ⟨t_24, ht_24, H⟩ := H
            obtain rfl : t_24 = false := ht_24.symm
            replace H := ite_f H
            replace H := app_hid H
            go_wp2_with fail
            go_roundg m0
            case measure => omega
            case rel => exact ⟨k0 + 1, by omega, by go_num, H, HBwt_23, kt_0_0, kt_0_1⟩
    | true =>
      have nht_11 : 20 < t_bans.length := by have := of_decide_eq_true ht_11; omega
      replace H := ite_t H
      obtain rfl := ret_hid H
      go_wp2_with fail
      go_ret
      exact ⟨rfl, HBwt_5.out⟩
end Go.Proofs.Ytekacbjnpeglhaa.GiIsKindTable

/- More words for the contracts of plain functions: a test against nil, a row that is handed over, a row whose end is cleared. No condition. -/
namespace Go.Proofs.Ytekacbjnpeglhaa.GoK
set_option linter.unusedVariables false
open Go.RowKit
open Go.Proofs.Ytekacbjnpeglhaa.Rowed Go.Proofs.Ytekacbjnpeglhaa.Turn Go.Proofs.Ytekacbjnpeglhaa.GoM

/-- a test of a row against nil: only an empty row can be nil, and then both ways have one answer -/
def nilK {α ρ : Type} (l : List α) (f : Bool → Option ρ) : Option ρ := f false
theorem nilK_hid {α ρ : Type} {l : List α} {f : Bool → Option ρ} {r : ρ} (H : Hid (nilK l f = some r)) (b : Bool) (hb : b = true → l = []) (he : l = [] → f true = f false) : Hid (f b = some r) := by
  have h : f false = some r := H
  cases b with
  | false => exact h
  | true => exact (he (hb rfl)).trans h
theorem nil_cells {w : World} {K n : Nat} {A : Option Addr} {α : Type} {l : List α} {cs : List Value} (h : Cells w K A n cs) (hl : cs = [] → l = []) : A.isNone = true → l = [] := by
  intro hA
  refine hl ?_
  cases hc : cs with
  | nil => rfl
  | cons y ys => obtain ⟨a, e, _⟩ := h.2 (by rw [hc]; simp); rw [e] at hA; simp at hA
/-- where a row lies that a function hands on: where another one lay, or behind all that was there -/
def From (w : World) (A A' : Option Addr) : Prop := ∀ a', A' = some a' → (∃ a, A = some a ∧ a.block = a'.block) ∨ w.heap.size ≤ a'.block
theorem from_self {w : World} {A : Option Addr} : From w A A := fun a h => .inl ⟨a, h, rfl⟩
theorem from_new {w : World} {A : Option Addr} {g : Nat} (h : w.heap.size ≤ g) : From w A (some ⟨g, 0, none⟩) := by
  intro a' e
  injection e with e
  subst e
  exact .inr h
theorem apart_from {w : World} {A A' B : Option Addr} (hD : Apart A B) (hB : ∀ a, B = some a → a.block < w.heap.size) (h : From w A A') : Apart A' B := by
  intro a a' ha ha' e
  have hl := hB a' ha'
  rcases h a ha with ⟨a2, h2, e2⟩ | h2
  · exact hD a2 a' h2 ha' (e2.trans e)
  · omega
theorem own_emptyB {b : Nat} {wc : World} {T K : Nat} (h : b ≤ wc.heap.size) : (wc.alloc (.cells #[] T)).ownsRow b T K (.slice (some ⟨wc.heap.size, 0, none⟩) 0 0) 0 [] :=
  ⟨by simp, .inr ⟨wc.heap.size, 0, #[], rfl, h, heap_alloc_new wc _, Nat.le_refl _, by unfold maxLen; omega, by simp, by simp⟩⟩
theorem own_setCells {b T K n c g : Nat} : ∀ (vs : List Value) (o : Nat) {w : World} {xs : List Value}, w.ownsRow b T K (.slice (some ⟨g, 0, none⟩) n c) n xs → o + vs.length ≤ xs.length →
    (w.setCells g o vs).ownsRow b T K (.slice (some ⟨g, 0, none⟩) n c) n (xs.take o ++ vs ++ xs.drop (o + vs.length)) ∧ w.grownBy (w.setCells g o vs) (some g) := by
  intro vs
  induction vs with
  | nil => intro o w xs h _; exact ⟨by simpa [World.setCells] using h, Aid.grown_refl _ _⟩
  | cons v vs ih =>
    intro o w xs h hl
    simp only [List.length_cons] at hl
    have h1 := h.stored o v
    have h2 := ih (o + 1) h1.1 (by rw [List.length_set]; omega)
    refine ⟨?_, Aid.grown_tr h1.2 h2.2⟩
    have e : (xs.set o v).take (o + 1) ++ vs ++ (xs.set o v).drop (o + 1 + vs.length) = xs.take o ++ (v :: vs) ++ xs.drop (o + (v :: vs).length) := by
      have ho : o < xs.length := by omega
      rw [List.drop_set_of_lt (by omega), List.take_add_one, List.getElem?_set_self ho, List.take_set_of_le (Nat.le_refl _)]
      simp [Nat.add_comm, Nat.add_left_comm]
    rw [← e]
    exact h2.1
/-- clear(s[lo:]) of a row of its own -/
theorem own_clear {P : Program} {t e : TypeId} {i : TypeInfo} {k : IntKind} {n c b : Nat} {A : Option Addr} {lo : Int} {w : World} {xs ys : List Value} {z : Value}
    (ht : P.underlying t = some (.slice (P.elem t))) (he : P.elem t = e) (hi : P.info? e = some i) (hs : i.size = 1) (hv : i.zero = some z) (hz : z.cells = #[z]) (h1 : z.oneCell' = true)
    (h : w.ownsRow b e 1 (.slice A n c) n xs) (hl : 0 ≤ lo ∧ lo ≤ (n : Int)) (hd : xs.take lo.toNat ++ List.replicate (n - lo.toNat) z = ys) :
    ∃ A' m c' w', (∀ W, (Instr.slice t (.slice A n c) (some (.int k lo)) none none).run P W = .ok (.slice A' m c') W) ∧ (∀ ty, (Builtin.clear_ #[t] ty #[.slice A' m c']).run P w = .ok (.tuple #[]) w') ∧
      w'.ownsRow b e 1 (.slice A n c) n ys ∧ w.grownBy w' (Value.slice A n c).ownBlock := by
  have hR := own_room h
  have hxs : xs.length = n := by have := h.1; omega
  have hsz : ∀ W, (sizeOf (P.elem t)).run P W = .ok 1 W := by intro W; subst he; simp [sizeOf, typeInfo, hi, hs]
  have hrun : ∀ W, (Instr.slice t (.slice A n c) (some (.int k lo)) none none).run P W = .ok (.slice (if c = lo.toNat then A else A.map (·.add (lo.toNat * 1))) (n - lo.toNat) (c - lo.toNat)) W := by
    intro W
    rw [run_slice_l (P := P) W t A n c ht k lo hl.1 hl.2, hsz W]
    rfl
  by_cases hm : n - lo.toNat = 0
  · refine ⟨_, _, _, w, hrun, ?_, ?_, Aid.grown_refl _ _⟩
    · intro ty
      rw [hm]
      generalize (if c = lo.toNat then A else A.map (·.add (lo.toNat * 1))) = A'
      cases A' <;> simp [Builtin.clear_, run_underlying ht]
    · rw [← hd, hm, List.replicate_zero, List.append_nil, List.take_of_length_le (by omega)]
      exact h
  · obtain ⟨g, rfl⟩ := own_some h (by omega)
    have hne : ¬ c = lo.toNat := by have := hR.1; omega
    have hcl := own_cells h
    have hget : ∀ j, j < n → (w.cell? ⟨g, j, none⟩).isSome = true := by
      intro j hj
      obtain ⟨ad, e0, hc⟩ := hcl.2 (by omega)
      obtain rfl := Option.some.inj e0
      have := hc j xs[j] (List.getElem?_eq_getElem (by omega))
      rw [add_flat, Nat.zero_add] at this
      rw [this]; rfl
    have hadd : (if c = lo.toNat then (some ⟨g, 0, none⟩ : Option Addr) else (some ⟨g, 0, none⟩ : Option Addr).map (·.add (lo.toNat * 1))) = some ⟨g, lo.toNat, none⟩ := by
      rw [if_neg hne, Option.map_some, add_flat, Nat.zero_add, Nat.mul_one]
    rw [hadd] at hrun
    have h2 := own_setCells (List.replicate (n - lo.toNat) z) lo.toNat h (by rw [List.length_replicate]; omega)
    refine ⟨_, _, _, _, hrun, fun ty => ?_, ?_, h2.2⟩
    · refine Lib.run_clear_slice w t e ty z (he ▸ ht) (fun w => by simp [zeroValue, typeInfo, hi, hv]) hz h1 g lo.toNat (n - lo.toNat) (c - lo.toNat) (by omega) (fun j hj => hget _ (by omega)) (fun j hj => h.frozenAt _)
    · have e2 : xs.take lo.toNat ++ List.replicate (n - lo.toNat) z ++ xs.drop (lo.toNat + (List.replicate (n - lo.toNat) z).length) = ys := by
        rw [List.length_replicate, List.drop_of_length_le (by omega), List.append_nil, hd]
      rw [← e2]
      exact h2.1
theorem apart_xio {n bb oo : Nat} {B : Option Addr} (h : 0 < n → Apart (some ⟨bb, oo, none⟩) B) (h0 : 0 < n) : Apart B (some ⟨bb, 0, none⟩) := by
  intro a a' ha ha' e
  injection ha' with ha'
  subst ha'
  exact h h0 ⟨bb, oo, none⟩ a rfl ha e.symm
/-- a row that came in, where another one was written -/
theorem cells_wr {w w' : World} {K n q c' : Nat} {A B : Option Addr} {xs : List Value} (h : Cells w K A n xs) (hg : w.grownBy w' (Value.slice B q c').ownBlock) (hX : 0 < n → Apart A B) : Cells w' K A n xs := by
  refine ⟨h.1, fun h0 => ?_⟩
  obtain ⟨a, e, hc⟩ := h.2 h0
  have hn : 0 < n := by
    rcases Nat.eq_zero_or_pos n with h1 | h1
    · have := h.1; rw [h1, Nat.zero_mul] at this; omega
    · exact h1
  refine ⟨a, e, fun j u hu => ?_⟩
  have hj := hc j u hu
  have hb : (a.add j).block = a.block := by unfold Addr.add; split <;> rfl
  rw [World.cell?_of_block (hg.block (a.add j).block (cell_lt hj) ?_)]
  · exact hj
  · cases hB : B with
    | none => simp [Value.ownBlock]
    | some y =>
      simp only [Value.ownBlock, ne_eq, Option.some.injEq]
      intro e2
      exact hX hn a y e hB (by rw [← hb]; exact e2)
/-- what came in lies apart from a row of one's own -/
theorem far_base {w w1 : World} {K n T K' m c n' : Nat} {A B : Option Addr} {cs xs : List Value} (hK : 0 < K) (h : Cells w K A n cs) (hO : w1.ownsRow w.heap.size T K' (.slice B m c) n' xs) : 0 < n → Apart A B := by
  intro hn a a' ha ha' e
  have h0 : 0 < cs.length := by rw [h.1]; exact Nat.mul_pos hn hK
  obtain ⟨a2, e2, hc⟩ := h.2 h0
  obtain rfl : a = a2 := by rw [ha] at e2; exact Option.some.inj e2
  have hl := cell_lt (hc 0 _ (List.getElem?_eq_getElem h0))
  have hb : (a.add 0).block = a.block := by unfold Addr.add; simp
  have := (own_lt hO a' ha').1
  rw [hb] at hl
  omega
end Go.Proofs.Ytekacbjnpeglhaa.GoK

/- loop.example/g01062/impl.forbids as a plain function, and the contract of the program's: where the plain one has an answer, the program has it. Conditions: slices read as lists. -/
namespace Go.Proofs.Ytekacbjnpeglhaa.GiForbids
set_option linter.unusedVariables false
set_option linter.unusedSimpArgs false
open Go.RowKit
open Go.Proofs.Ytekacbjnpeglhaa.Rowed Go.Proofs.Ytekacbjnpeglhaa.Turn Go.Proofs.Ytekacbjnpeglhaa.Aid Go.Proofs.Ytekacbjnpeglhaa.GoP Go.Proofs.Ytekacbjnpeglhaa.GoM

def P (b : Go.Proofs.Ytekacbjnpeglhaa.PBan.Ban) (kind : (List Int)) : Option (Bool) :=
  unBan b fun (b_a : Int) (b_x : Int) (b_b : Int) (b_y : Int) =>
  Option.bind (idx kind b_a) fun (yt_5 : Int) =>
  letK (yt_5 == b_x) fun (t_9 : Bool) =>
  joinK (fun (t_19 : Bool) =>
  some t_19) fun jt_19 => iteK t_9 (Option.bind (idx kind b_b) fun (yt_14 : Int) =>
  letK (yt_14 == b_y) fun (t_18 : Bool) =>
  appK jt_19 t_18) (appK jt_19 false)

set_option maxRecDepth 100000 in
set_option maxHeartbeats 2000000 in
theorem C (b : Go.Proofs.Ytekacbjnpeglhaa.PBan.Ban) (kind : (List Int)) (A1 : Option Addr) (c1 : Nat)  (w : World) (M1 : Hid (Cells w 1 A1 kind.length (Go.Proofs.Ytekacbjnpeglhaa.HelpInt.iv kind))) (N1 : Hid (kind.length ≤ 9223372036854775807))  {r : Bool} (H : Hid (P b kind = some r)) :
    Calls Try.prog 64 #[b.val, .slice A1 kind.length c1] w (Gives (.bool r) w) := by
  have HB := Lib.hid (Below.refl w.heap.size w)
  unfold P at H
  obtain ⟨b_a, b_x, b_b, b_y⟩ := b
  replace H := unBan_hid H
  unfold Go.Proofs.Ytekacbjnpeglhaa.PBan.Ban.val
  have N1o := N1.out
  go_enter Try.func64, Try.ntmps64
  obtain ⟨w_b_0, hw_b_0⟩ : ∃ x, w.alloc (.cells #[.int .i64 b_a, .int .i64 b_x, .int .i64 b_b, .int .i64 b_y] 57) = x := ⟨_, rfl⟩
  have bw_b_0 : Below w.heap.size w w_b_0 := by rw [← hw_b_0]; exact (Below.refl _ _).alloc (Nat.le_refl _) _
  have HBw_b_0 := Lib.hid (Below.step HB.out bw_b_0)
  clear bw_b_0
  have kb_0_0 : w_b_0.cell? ⟨w.heap.size, 0, none⟩ = some (.int .i64 b_a) := by rw [← hw_b_0]; exact box_new _ _ _ 0 _ rfl
  have kb_0_1 : w_b_0.cell? ⟨w.heap.size, 1, none⟩ = some (.int .i64 b_x) := by rw [← hw_b_0]; exact box_new _ _ _ 1 _ rfl
  have kb_0_2 : w_b_0.cell? ⟨w.heap.size, 2, none⟩ = some (.int .i64 b_b) := by rw [← hw_b_0]; exact box_new _ _ _ 2 _ rfl
  have kb_0_3 : w_b_0.cell? ⟨w.heap.size, 3, none⟩ = some (.int .i64 b_y) := by rw [← hw_b_0]; exact box_new _ _ _ 3 _ rfl
  go_wp2_with fail
  have Hkb_0_0 := Lib.hid kb_0_0
  replace kb_0_0 := cell_regrown kb_0_0
  have Hkb_0_1 := Lib.hid kb_0_1
  replace kb_0_1 := cell_regrown kb_0_1
  have Hkb_0_2 := Lib.hid kb_0_2
  replace kb_0_2 := cell_regrown kb_0_2
  have Hkb_0_3 := Lib.hid kb_0_3
  replace kb_0_3 := cell_regrown kb_0_3
  replace H := idx_hid H
  obtain ⟨nt_5, yt_5, et_5, lt_5, gt_5, H⟩ := H
  subst et_5
  obtain ⟨ab_t_5, ao_t_5, zt_5, At_5, z_t_5, ct_5_0⟩ := Go.Proofs.Ytekacbjnpeglhaa.HelpInt.Ints.at_ M1.out lt_5
  obtain rfl := Option.some.inj (gt_5.out.symm.trans z_t_5)
  subst At_5
  have ltt_5 := cell_lt ct_5_0
  replace ct_5_0 := cell_below HBw_b_0.out ct_5_0
  clear z_t_5
  have b0t_5 : (0 : Int) ≤ (nt_5 : Int) := by omega
  have b1t_5 : (nt_5 : Int) < ((kind.length : Nat) : Int) := by omega
  have b2t_5 : ((nt_5 : Int)).toNat = nt_5 := by omega
  have Hct_5_0 := Lib.hid ct_5_0
  replace ct_5_0 := cell_regrown ct_5_0
  replace H := let_hid H
  obtain ⟨t_9, ht_9, H⟩ := H
  replace H := join_hid H
  cases t_9 with
  | false =>
    replace H := ite_f H
    replace H := app_hid H
    refine wp_region_quiet_below (by kernel_rfl) (by kernel_rfl) ?_
    repeat (go_big_quiet_step (fail))
    refine wpQuiet_nil ?_
    intro Y1 hY1
    replace hY1 := below_class hY1
    replace kb_0_0 := Hkb_0_0.out
    clear Hkb_0_0
    replace kb_0_1 := Hkb_0_1.out
    clear Hkb_0_1
    replace kb_0_2 := Hkb_0_2.out
    clear Hkb_0_2
    replace kb_0_3 := Hkb_0_3.out
    clear Hkb_0_3
    replace ct_5_0 := Hct_5_0.out
    clear Hct_5_0
    have HBY1 := Lib.hid (Below.step HBw_b_0.out hY1)
    replace kb_0_0 := cell_below hY1 kb_0_0
    replace kb_0_1 := cell_below hY1 kb_0_1
    replace kb_0_2 := cell_below hY1 kb_0_2
    replace kb_0_3 := cell_below hY1 kb_0_3
    replace ct_5_0 := cell_below hY1 ct_5_0
    clear hY1
    obtain rfl := ret_hid H
    go_wp2_with fail
    go_ret
    exact ⟨rfl, HBY1.out⟩
  | true =>
    replace H := ite_t H
    replace H := idx_hid H
    obtain ⟨nt_14, yt_14, et_14, lt_14, gt_14, H⟩ := H
    subst et_14
    obtain ⟨ab_t_14, ao_t_14, zt_14, At_14, z_t_14, ct_14_0⟩ := Go.Proofs.Ytekacbjnpeglhaa.HelpInt.Ints.at_ M1.out lt_14
    obtain rfl := Option.some.inj (gt_14.out.symm.trans z_t_14)
    simp only [Option.some.injEq, Addr.mk.injEq] at At_14
    obtain ⟨rfl, rfl, _⟩ := At_14
    have ltt_14 := cell_lt ct_14_0
    replace ct_14_0 := cell_below HBw_b_0.out ct_14_0
    clear z_t_14
    have b0t_14 : (0 : Int) ≤ (nt_14 : Int) := by omega
    have b1t_14 : (nt_14 : Int) < ((kind.length : Nat) : Int) := by omega
    have b2t_14 : ((nt_14 : Int)).toNat = nt_14 := by omega
    have Hct_14_0 := Lib.hid ct_14_0
    replace ct_14_0 := cell_regrown ct_14_0
    replace H := let_hid H
    obtain ⟨t_18, ht_18, H⟩ := H
    replace H := app_hid H
    refine wp_region_quiet_below (by kernel_rfl) (by kernel_rfl) ?_
    repeat (go_big_quiet_step (fail))
    refine wpQuiet_nil ?_
    intro Y1 hY1
    replace hY1 := below_class hY1
    replace kb_0_0 := Hkb_0_0.out
    clear Hkb_0_0
    replace kb_0_1 := Hkb_0_1.out
    clear Hkb_0_1
    replace kb_0_2 := Hkb_0_2.out
    clear Hkb_0_2
    replace kb_0_3 := Hkb_0_3.out
    clear Hkb_0_3
    replace ct_5_0 := Hct_5_0.out
    clear Hct_5_0
    replace ct_14_0 := Hct_14_0.out
    clear Hct_14_0
    have HBY1 := Lib.hid (Below.step HBw_b_0.out hY1)
    replace kb_0_0 := cell_below hY1 kb_0_0
    replace kb_0_1 := cell_below hY1 kb_0_1
    replace kb_0_2 := cell_below hY1 kb_0_2
    replace kb_0_3 := cell_below hY1 kb_0_3
    replace ct_5_0 := cell_below hY1 ct_5_0
    replace ct_14_0 := cell_below hY1 ct_14_0
    clear hY1
    obtain rfl := ret_hid H
    go_wp2_with fail
    go_ret
    exact ⟨rfl, HBY1.out⟩
end Go.Proofs.Ytekacbjnpeglhaa.GiForbids

/- loop.example/g01062/impl.advance as a plain function, and the contract of the program's: where the plain one has an answer, the program has it. Conditions: slices read as lists. -/
namespace Go.Proofs.Ytekacbjnpeglhaa.GiAdvance
set_option linter.unusedVariables false
set_option linter.unusedSimpArgs false
open Go.RowKit
open Go.Proofs.Ytekacbjnpeglhaa.Rowed Go.Proofs.Ytekacbjnpeglhaa.Turn Go.Proofs.Ytekacbjnpeglhaa.Aid Go.Proofs.Ytekacbjnpeglhaa.GoP Go.Proofs.Ytekacbjnpeglhaa.GoM

def l0 (sizes : (List Int)) (s : (List Int) × Int) (nx0 bk0 : (List Int) × Int → Option (Bool × (List Int))) : Option (Bool × (List Int)) :=
  unp2 s fun kind_1l0 k_7l0 =>
  letK (decide (0 ≤ k_7l0)) fun (t_9 : Bool) =>
  iteK t_9
  (Option.bind (idx kind_1l0 k_7l0) fun (yt_12 : Int) =>
  letK (IntKind.i64.wrap (yt_12 + 1)) fun (t_14 : Int) =>
  Option.bind (idx kind_1l0 k_7l0) fun (yt_15 : Int) =>
  letK (kind_1l0.set (k_7l0).toNat t_14) fun (l16_16 : (List Int)) =>
  Option.bind (idx l16_16 k_7l0) fun (yt_19 : Int) =>
  Option.bind (idx sizes k_7l0) fun (yt_23 : Int) =>
  letK (decide (yt_19 < yt_23)) fun (t_25 : Bool) =>
  iteK t_25
  (some (true, l16_16))
  (Option.bind (idx l16_16 k_7l0) fun (yt_29 : Int) =>
  letK (l16_16.set (k_7l0).toNat 0) fun (l30_30 : (List Int)) =>
  letK (IntKind.i64.wrap (k_7l0 - 1)) fun (t_32 : Int) =>
  appK nx0 (l30_30, t_32)))
  (appK bk0 (kind_1l0, k_7l0))

def e0  (s : (List Int) × Int) : Option (Bool × (List Int)) :=
  unp2 s fun kind_1l0 k_7l0 =>
  some (false, kind_1l0)

def P (fuel : Nat) (sizes : (List Int)) (kind : (List Int)) (trait : Int) : Option (Bool × (List Int)) :=
  letK (IntKind.i64.wrap (trait + 1)) fun (t_3 : Int) =>
  guardK ((0 : Int) ≤ t_3 ∧ (t_3 : Int) ≤ (kind.length : Int)) <|
  letK (List.take (Int.toNat t_3) kind ++ List.replicate (kind.length - Int.toNat t_3) 0) fun (cl_5 : (List Int)) =>
  loopK (l0 sizes) fuel (cl_5, trait) (e0 )

set_option maxRecDepth 100000 in
set_option maxHeartbeats 2000000 in
theorem C (fuel : Nat) (sizes : (List Int)) (kind : (List Int)) (trait : Int) (A0 : Option Addr) (c0 : Nat) (A1 : Option Addr) (c1 : Nat)  (b0 : Nat) (w : World) (M0 : Hid (Cells w 1 A0 sizes.length (Go.Proofs.Ytekacbjnpeglhaa.HelpInt.iv sizes))) (N0 : Hid (sizes.length ≤ 9223372036854775807)) (M1 : Hid (w.ownsRow b0 3 1 (.slice A1 kind.length c1) kind.length (Go.Proofs.Ytekacbjnpeglhaa.HelpInt.iv kind))) (N1 : Hid (kind.length ≤ 9223372036854775807))  (X0 : Hid (0 < sizes.length → Apart A0 A1)) {r : Bool} {l_ : (List Int)} (H : Hid (P fuel sizes kind trait = some (r, l_))) :
    Calls Try.prog 97 #[.slice A0 sizes.length c0, .slice A1 kind.length c1, .int .i64 trait] w (fun e w' => e = .returned (.bool r) ∧ w'.ownsRow b0 3 1 (.slice A1 kind.length c1) kind.length (Go.Proofs.Ytekacbjnpeglhaa.HelpInt.iv l_) ∧ l_.length = kind.length ∧ w.grownBy w' (Value.slice A1 kind.length c1).ownBlock) := by
  have HB := Lib.hid (Aid.grown_refl w (Value.slice A1 kind.length c1).ownBlock)
  unfold P at H
  have N0o := N0.out
  have N1o := N1.out
  obtain ⟨i0_3, hi_3, hz0_3, hz1_3, hz2_3⟩ := Aid.info_parts (P := Try.prog) (T := 3) (z := .int .i64 0) (s := 1) (b := 8) (by kernel_rfl)
  go_enter Try.func97, Try.ntmps97
  replace H := let_hid H
  obtain ⟨t_3, ht_3, H⟩ := H
  replace H := guard_hid H
  obtain ⟨hl_cl_5, H⟩ := H
  replace H := let_hid H
  obtain ⟨cl_5, hcl_5, H⟩ := H
  have dcl_5 : ((Go.Proofs.Ytekacbjnpeglhaa.HelpInt.iv kind)).take (Int.toNat t_3) ++ List.replicate (kind.length - Int.toNat t_3) (.int .i64 0) = (Go.Proofs.Ytekacbjnpeglhaa.HelpInt.iv cl_5) := by rw [← hcl_5]; simp [Go.Proofs.Ytekacbjnpeglhaa.HelpInt.iv, List.map_take]
  have ncl_5 : Hid (cl_5.length = kind.length) := Lib.hid (by rw [← hcl_5, List.length_append, List.length_take, List.length_replicate]; omega)
  obtain ⟨Acl_5, mcl_5, ccl_5, wcl_5, rcl_5, ucl_5, ocl_5, gcl_5⟩ := Go.Proofs.Ytekacbjnpeglhaa.GoK.own_clear (P := Try.prog) (t := 22) (e := 3) (k := .i64) (by kernel_rfl) (by kernel_rfl) hi_3 hz1_3 hz0_3 (by rfl) (by rfl) M1.out hl_cl_5 dcl_5
  have Pcl_5 := Lib.hid ocl_5
  have Gcl_5 := Lib.hid gcl_5
  clear ocl_5 gcl_5 dcl_5 hl_cl_5
  have hhcl_5 := Lib.hid hcl_5
  clear hcl_5
  have HBwcl_5 := Lib.hid (Aid.grown_tr HB.out Gcl_5.out)
  clear M1 Gcl_5
  go_wp2_with fail
  clear rcl_5 ucl_5
  go_wp2_with fail
  go_loopg [7] (fuel) (fun m_ v7_ wr => ∃ (kind_1l0 : (List Int)) (k_7l0 : Int), v7_ = .int .i64 k_7l0 ∧ Hid (loopK (l0 sizes) m_ (kind_1l0, k_7l0) (e0 ) = some (r, l_)) ∧ Hid (w.grownBy wr (Value.slice A1 kind.length c1).ownBlock) ∧ Hid (wr.ownsRow b0 3 1 (.slice A1 kind.length c1) kind.length (Go.Proofs.Ytekacbjnpeglhaa.HelpInt.iv kind_1l0)) ∧ Hid (kind_1l0.length = kind.length))
  case atStart => exact ⟨_, _, rfl, H, HBwcl_5, Pcl_5, Lib.hid (ncl_5.out)⟩
  case round =>
    obtain ⟨kind_1l0, k_7l0, rfl, H, HBwr0, Okind_1l0, hnkind_1l0⟩ := hrel
    rename World => wr0
    cases gk with
    | zero => exact (loop_zero H).elim
    | succ m0 =>
      replace H := loop_succ H
      unfold l0 at H
      replace H := unp2_hid H
      replace H := let_hid H
      obtain ⟨t_9, ht_9, H⟩ := H
      cases t_9 with
      | false =>
        replace H := ite_f H
        replace H := app_hid H
        unfold e0 at H
        replace H := unp2_hid H
        cases ret_hid H
        go_wp2_with fail
        go_ret
        exact ⟨rfl, Okind_1l0.out, hnkind_1l0.out, HBwr0.out⟩
      | true =>
        replace H := ite_t H
        replace H := idx_hid H
        obtain ⟨nt_12, yt_12, et_12, lt_12, gt_12, H⟩ := H
        subst et_12
        have nc_138 : 0 ≤ nt_12 := by have := of_decide_eq_true ht_9; omega
        have hqt_12 := hnkind_1l0.out
        obtain ⟨qt_12, Qt_12⟩ := own_some Okind_1l0.out (by omega)
        subst Qt_12
        obtain ⟨ab_t_12, ao_t_12, zt_12, At_12, z_t_12, ct_12_0⟩ := Go.Proofs.Ytekacbjnpeglhaa.HelpInt.Ints.at_ (own_cells Okind_1l0.out) (k := nt_12) (by omega)
        obtain rfl := Option.some.inj (gt_12.out.symm.trans z_t_12)
        simp only [Option.some.injEq, Addr.mk.injEq] at At_12
        obtain ⟨rfl, rfl, _⟩ := At_12
        clear z_t_12
        simp only [Nat.zero_add] at ct_12_0
        have b0t_12 : (0 : Int) ≤ (nt_12 : Int) := by omega
        have b1t_12 : (nt_12 : Int) < ((kind.length : Nat) : Int) := by omega
        have b2t_12 : ((nt_12 : Int)).toNat = nt_12 := by omega
        clear hqt_12
        replace H := let_hid H
        obtain ⟨t_14, ht_14, H⟩ := H
        replace H := idx_hid H
        obtain ⟨nt_15, yt_15, et_15, lt_15, gt_15, H⟩ := H
        obtain rfl : nt_12 = nt_15 := by omega
        clear et_15
        obtain rfl := Option.some.inj (gt_12.out.symm.trans gt_15.out)
        clear gt_15 lt_15
        replace H := let_hid H
        obtain ⟨l16_16, hl16_16, H⟩ := H
        obtain ⟨wl16_16, hwl16_16⟩ : ∃ x, (wr0).setCell ⟨qt_12, nt_12, none⟩ (.int .i64 t_14) = x := ⟨_, rfl⟩
        have z0l16_16 := Okind_1l0.out.frozenAt (nt_12)
        have Sl16_16 := Lib.hid (own_stores [(nt_12, .int .i64 t_14)] Okind_1l0.out)
        have nl16_16 : Hid (l16_16.length = kind.length) := Lib.hid (by rw [← hl16_16, List.length_set]; exact hnkind_1l0.out)
        have Pl16_16 : Hid (wl16_16.ownsRow b0 3 1 (.slice (some ⟨qt_12, 0, none⟩) kind.length c1) kind.length (Go.Proofs.Ytekacbjnpeglhaa.HelpInt.iv l16_16)) := Lib.hid (by have e_ : ([(nt_12, .int .i64 t_14)] : List (Nat × Value)).foldl (fun xs p => xs.set p.1 p.2) (Go.Proofs.Ytekacbjnpeglhaa.HelpInt.iv kind_1l0) = (Go.Proofs.Ytekacbjnpeglhaa.HelpInt.iv l16_16) := (by rw [← hl16_16]; first | done | simp [Go.Proofs.Ytekacbjnpeglhaa.HelpInt.iv, List.map_set]); rw [← hwl16_16, ← e_]; exact Sl16_16.out.1)
        have Gl16_16 : Hid (wr0.grownBy wl16_16 (Value.slice (some ⟨qt_12, 0, none⟩) kind.length c1).ownBlock) := Lib.hid (by rw [← hwl16_16]; exact Sl16_16.out.2)
        have HBwl16_16 := Lib.hid (Aid.grown_tr HBwr0.out Gl16_16.out)
        have hhl16_16 := Lib.hid hl16_16
        clear hl16_16 Sl16_16
        clear Okind_1l0 Gl16_16
        go_wp2_with fail
        clear z0l16_16 ct_12_0
        replace H := idx_hid H
        obtain ⟨nt_19, yt_19, et_19, lt_19, gt_19, H⟩ := H
        obtain rfl : nt_12 = nt_19 := by omega
        clear et_19
        have hqt_19 := nl16_16.out
        obtain ⟨ab_t_19, ao_t_19, zt_19, At_19, z_t_19, ct_19_0⟩ := Go.Proofs.Ytekacbjnpeglhaa.HelpInt.Ints.at_ (own_cells Pl16_16.out) (k := nt_12) (by omega)
        obtain rfl := Option.some.inj (gt_19.out.symm.trans z_t_19)
        simp only [Option.some.injEq, Addr.mk.injEq] at At_19
        obtain ⟨rfl, rfl, _⟩ := At_19
        clear z_t_19
        simp only [Nat.zero_add] at ct_19_0
        have b0t_19 : (0 : Int) ≤ (nt_12 : Int) := by omega
        have b1t_19 : (nt_12 : Int) < ((kind.length : Nat) : Int) := by omega
        have b2t_19 : ((nt_12 : Int)).toNat = nt_12 := by omega
        clear hqt_19
        have Hct_19_0 := Lib.hid ct_19_0
        replace ct_19_0 := cell_regrown ct_19_0
        replace H := idx_hid H
        obtain ⟨nt_23, yt_23, et_23, lt_23, gt_23, H⟩ := H
        obtain rfl : nt_12 = nt_23 := by omega
        clear et_23
        obtain ⟨ab_t_23, ao_t_23, zt_23, At_23, z_t_23, ct_23_0⟩ := Go.Proofs.Ytekacbjnpeglhaa.HelpInt.Ints.at_ M0.out lt_23
        obtain rfl := Option.some.inj (gt_23.out.symm.trans z_t_23)
        subst At_23
        have ltt_23 := cell_lt ct_23_0
        replace ct_23_0 := cell_other ct_23_0 HBwl16_16.out (Go.Proofs.Ytekacbjnpeglhaa.GoK.apart_xio X0.out (by omega))
        clear z_t_23
        have b0t_23 : (0 : Int) ≤ (nt_12 : Int) := by omega
        have b1t_23 : (nt_12 : Int) < ((sizes.length : Nat) : Int) := by omega
        have b2t_23 : ((nt_12 : Int)).toNat = nt_12 := by omega
        have Hct_23_0 := Lib.hid ct_23_0
        replace ct_23_0 := cell_regrown ct_23_0
        replace H := let_hid H
        obtain ⟨t_25, ht_25, H⟩ := H
        refine wp_region_quiet_below (by kernel_rfl) (by kernel_rfl) ?_
        repeat (go_big_quiet_step (fail))
        refine wpQuiet_nil ?_
        intro Y6 hY6
        replace hY6 := below_class hY6
        replace ct_19_0 := Hct_19_0.out
        clear Hct_19_0
        replace ct_23_0 := Hct_23_0.out
        clear Hct_23_0
        have HBY6 := Lib.hid (grown_below HBwl16_16.out hY6)
        replace ct_19_0 := cell_below hY6 ct_19_0
        replace ct_23_0 := cell_below hY6 ct_23_0
        replace Pl16_16 := Lib.hid (own_below Pl16_16.out hY6)
        clear hY6
        cases t_25 with
        | false =>
          replace H := ite_f H
          replace H := idx_hid H
          obtain ⟨nt_29, yt_29, et_29, lt_29, gt_29, H⟩ := H
          obtain rfl : nt_12 = nt_29 := by omega
          clear et_29
          obtain rfl := Option.some.inj (gt_19.out.symm.trans gt_29.out)
          clear gt_29 lt_29
          replace H := let_hid H
          obtain ⟨l30_30, hl30_30, H⟩ := H
          obtain ⟨wl30_30, hwl30_30⟩ : ∃ x, (Y6).setCell ⟨qt_12, nt_12, none⟩ (.int .i64 0) = x := ⟨_, rfl⟩
          have z0l30_30 := Pl16_16.out.frozenAt (nt_12)
          have Sl30_30 := Lib.hid (own_stores [(nt_12, .int .i64 0)] Pl16_16.out)
          have nl30_30 : Hid (l30_30.length = kind.length) := Lib.hid (by rw [← hl30_30, List.length_set]; exact nl16_16.out)
          have Pl30_30 : Hid (wl30_30.ownsRow b0 3 1 (.slice (some ⟨qt_12, 0, none⟩) kind.length c1) kind.length (Go.Proofs.Ytekacbjnpeglhaa.HelpInt.iv l30_30)) := Lib.hid (by have e_ : ([(nt_12, .int .i64 0)] : List (Nat × Value)).foldl (fun xs p => xs.set p.1 p.2) (Go.Proofs.Ytekacbjnpeglhaa.HelpInt.iv l16_16) = (Go.Proofs.Ytekacbjnpeglhaa.HelpInt.iv l30_30) := (by rw [← hl30_30]; first | done | simp [Go.Proofs.Ytekacbjnpeglhaa.HelpInt.iv, List.map_set]); rw [← hwl30_30, ← e_]; exact Sl30_30.out.1)
          have Gl30_30 : Hid (Y6.grownBy wl30_30 (Value.slice (some ⟨qt_12, 0, none⟩) kind.length c1).ownBlock) := Lib.hid (by rw [← hwl30_30]; exact Sl30_30.out.2)
          have HBwl30_30 := Lib.hid (Aid.grown_tr HBY6.out Gl30_30.out)
          have hhl30_30 := Lib.hid hl30_30
          clear hl30_30 Sl30_30
          have ct_23_0__139 := cell_other ct_23_0 Gl30_30.out (Go.Proofs.Ytekacbjnpeglhaa.GoK.apart_xio X0.out (by have := lt_23; omega))
          clear Pl16_16 Gl30_30
          replace H := let_hid H
          obtain ⟨t_32, ht_32, H⟩ := H
          replace H := app_hid H
          go_wp2_with fail
          clear z0l30_30 ct_19_0 ct_23_0
          go_roundg m0
          case measure => omega
          case rel => exact ⟨_, _, rfl, H, HBwl30_30, Pl30_30, Lib.hid (nl30_30.out)⟩
        | true =>
          replace H := ite_t H
          cases ret_hid H
          go_wp2_with fail
          go_ret
          exact ⟨rfl, Pl16_16.out, nl16_16.out, HBY6.out⟩
end Go.Proofs.Ytekacbjnpeglhaa.GiAdvance

/- loop.example/g01062/impl.firstFrom as a plain function, and the contract of the program's: where the plain one has an answer, the program has it. Conditions: slices read as lists. -/
namespace Go.Proofs.Ytekacbjnpeglhaa.GiFirstFrom
set_option linter.unusedVariables false
set_option linter.unusedSimpArgs false
open Go.RowKit
open Go.Proofs.Ytekacbjnpeglhaa.Rowed Go.Proofs.Ytekacbjnpeglhaa.Turn Go.Proofs.Ytekacbjnpeglhaa.Aid Go.Proofs.Ytekacbjnpeglhaa.GoP Go.Proofs.Ytekacbjnpeglhaa.GoM

def l1 (t_sizes : (List Int)) (t_bans : (List Go.Proofs.Ytekacbjnpeglhaa.PBan.Ban)) (fuel : Nat) (nx0 : ((List Int)) → Option ((List Int) × Bool)) (kind_1l0 : (List Int)) (k1 : Nat) (s : Unit) (nx1 bk1 : Unit → Option ((List Int) × Bool)) : Option ((List Int) × Bool) :=
  
  Option.bind (idx t_bans (k1 : Int)) fun (yt_8 : Go.Proofs.Ytekacbjnpeglhaa.PBan.Ban) =>
  unBan yt_8 fun (t_8_a : Int) (t_8_x : Int) (t_8_b : Int) (t_8_y : Int) =>
  Option.bind (Go.Proofs.Ytekacbjnpeglhaa.GiForbids.P (Go.Proofs.Ytekacbjnpeglhaa.PBan.Ban.mk t_8_a t_8_x t_8_b t_8_y) kind_1l0) fun (t_14 : Bool) =>
  letK (!t_14) fun (t_15 : Bool) =>
  iteK t_15
  (appK nx1 ())
  (bind2 (Go.Proofs.Ytekacbjnpeglhaa.GiAdvance.P fuel t_sizes kind_1l0 t_8_b) fun (t_21 : Bool) (lt_21 : (List Int)) =>
  letK (!t_21) fun (t_22 : Bool) =>
  iteK t_22
  (some (([] : List Int), false))
  (appK nx0 (lt_21)))

def e1 (kind_1l0 : (List Int)) (s : Unit) : Option ((List Int) × Bool) :=
  
  some (kind_1l0, true)

def l0 (t_sizes : (List Int)) (t_bans : (List Go.Proofs.Ytekacbjnpeglhaa.PBan.Ban)) (fuel : Nat) (s : (List Int)) (nx0 bk0 : (List Int) → Option ((List Int) × Bool)) : Option ((List Int) × Bool) :=
  letK s fun kind_1l0 =>
  cntK (l1 t_sizes t_bans fuel nx0 kind_1l0) (t_bans.length) 0 () (e1 kind_1l0)

def e0  (s : (List Int)) : Option ((List Int) × Bool) :=
  letK s fun kind_1l0 =>
  some ([], false)

def P (fuel : Nat) (t_sizes : (List Int)) (t_bans : (List Go.Proofs.Ytekacbjnpeglhaa.PBan.Ban)) (kind : (List Int)) : Option ((List Int) × Bool) :=
  loopK (l0 t_sizes t_bans fuel) fuel (kind) (e0 )

set_option maxRecDepth 100000 in
set_option maxHeartbeats 2000000 in
theorem C (fuel : Nat) (t_sizes : (List Int)) (t_bans : (List Go.Proofs.Ytekacbjnpeglhaa.PBan.Ban)) (kind : (List Int)) (A0_0 : Option Addr) (c0_0 : Nat) (A0_1 : Option Addr) (c0_1 : Nat) (A1 : Option Addr) (c1 : Nat)  (b0 : Nat) (w : World) (M0_0 : Hid (Cells w 1 A0_0 t_sizes.length (Go.Proofs.Ytekacbjnpeglhaa.HelpInt.iv t_sizes))) (N0_0 : Hid (t_sizes.length ≤ 9223372036854775807)) (M0_1 : Hid (Cells w 4 A0_1 t_bans.length (Go.Proofs.Ytekacbjnpeglhaa.PBan.flat t_bans))) (N0_1 : Hid (t_bans.length ≤ 9223372036854775807)) (M1 : Hid (w.ownsRow b0 3 1 (.slice A1 kind.length c1) kind.length (Go.Proofs.Ytekacbjnpeglhaa.HelpInt.iv kind))) (N1 : Hid (kind.length ≤ 9223372036854775807))  (LB : Hid (b0 ≤ w.heap.size)) (X0_0 : Hid (0 < t_sizes.length → Apart A0_0 A1)) (X0_1 : Hid (0 < t_bans.length → Apart A0_1 A1)) {r0 : (List Int)} {r1 : Bool} (H : Hid (P fuel t_sizes t_bans kind = some (r0, r1))) :
    Calls Try.prog 96 #[.agg #[.slice A0_0 t_sizes.length c0_0, .slice A0_1 t_bans.length c0_1], .slice A1 kind.length c1] w (fun e w' => ∃ A_r0 c_r0, e = .returned (.tuple #[.slice A_r0 r0.length c_r0, .bool r1]) ∧ w'.ownsRow b0 3 1 (.slice A_r0 r0.length c_r0) r0.length (Go.Proofs.Ytekacbjnpeglhaa.HelpInt.iv r0) ∧ w.grownBy w' (Value.slice A1 kind.length c1).ownBlock ∧ Go.Proofs.Ytekacbjnpeglhaa.GoK.From w A1 A_r0) := by
  have HB := Lib.hid (Aid.grown_refl w (Value.slice A1 kind.length c1).ownBlock)
  unfold P at H
  have N0_0o := N0_0.out
  have N0_1o := N0_1.out
  have N1o := N1.out
  go_enter Try.func96, Try.ntmps96
  obtain ⟨w_t_0, hw_t_0⟩ : ∃ x, w.alloc (.cells #[.slice A0_0 t_sizes.length c0_0, .slice A0_1 t_bans.length c0_1] 30) = x := ⟨_, rfl⟩
  have bw_t_0 : Below w.heap.size w w_t_0 := by rw [← hw_t_0]; exact (Below.refl _ _).alloc (Nat.le_refl _) _
  have Dt_0_io1 := Lib.hid (apart_fresh M1.out)
  have HBw_t_0 := Lib.hid (grown_below HB.out bw_t_0)
  replace M1 := Lib.hid (own_below M1.out bw_t_0)
  clear bw_t_0
  have kt_0_0 : w_t_0.cell? ⟨w.heap.size, 0, none⟩ = some (.slice A0_0 t_sizes.length c0_0) := by rw [← hw_t_0]; exact box_new _ _ _ 0 _ rfl
  have kt_0_1 : w_t_0.cell? ⟨w.heap.size, 1, none⟩ = some (.slice A0_1 t_bans.length c0_1) := by rw [← hw_t_0]; exact box_new _ _ _ 1 _ rfl
  go_wp2_with fail
  first | refine wp_scope_straight (wp_seq (wp_label ?_)) | refine wp_seq (wp_label ?_)
  try simp only [Exit.then]
  go_wp2_with fail
  go_wp2_with fail
  go_loopg [] (fuel) (fun m_  wr => ∃ (kind_1l0 : (List Int)), Hid (loopK (l0 t_sizes t_bans fuel) m_ (kind_1l0) (e0 ) = some (r0, r1)) ∧ Hid (w.grownBy wr (Value.slice A1 kind.length c1).ownBlock) ∧ wr.cell? ⟨w.heap.size, 0, none⟩ = some (.slice A0_0 t_sizes.length c0_0) ∧ wr.cell? ⟨w.heap.size, 1, none⟩ = some (.slice A0_1 t_bans.length c0_1) ∧ Hid (wr.ownsRow b0 3 1 (.slice A1 kind.length c1) kind.length (Go.Proofs.Ytekacbjnpeglhaa.HelpInt.iv kind_1l0)) ∧ Hid (kind_1l0.length = kind.length) ∧ Hid (Apart A1 (some ⟨w.heap.size, 0, none⟩)))
  case atStart => exact ⟨_, H, HBw_t_0, kt_0_0, kt_0_1, M1, Lib.hid (rfl), Lib.hid (Apart.symm Dt_0_io1.out)⟩
  case round =>
    obtain ⟨kind_1l0, H, HBwr0, kt_0_0, kt_0_1, Okind_1l0, hnkind_1l0, Dkind_1l0_t_0⟩ := hrel
    rename World => wr0
    cases gk with
    | zero => exact (loop_zero H).elim
    | succ m0 =>
      replace H := loop_succ H
      unfold l0 at H
      replace H := let_hid H
      obtain ⟨_, rfl, H⟩ := H
      go_wp2_with fail
      go_loopg [11] (t_bans.length) (fun m_ v11_ wr => ∃ (k1 : Nat) , k1 + m_ = t_bans.length ∧ v11_ = .int .i64 (k1 : Int) ∧ Hid (cntK (l1 t_sizes t_bans fuel (fun s' => loopK (l0 t_sizes t_bans fuel) m0 s' (e0 )) kind_1l0) m_ k1 () (e1 kind_1l0) = some (r0, r1)) ∧ Hid (w.grownBy wr (Value.slice A1 kind.length c1).ownBlock) ∧ wr.cell? ⟨w.heap.size, 0, none⟩ = some (.slice A0_0 t_sizes.length c0_0) ∧ wr.cell? ⟨w.heap.size, 1, none⟩ = some (.slice A0_1 t_bans.length c0_1) ∧ Hid (wr.ownsRow b0 3 1 (.slice A1 kind.length c1) kind.length (Go.Proofs.Ytekacbjnpeglhaa.HelpInt.iv kind_1l0)))
      case atStart => exact ⟨0, by omega, rfl, H, HBwr0, kt_0_0, kt_0_1, Okind_1l0⟩
      case round =>
        obtain ⟨k1, hkm1, rfl, H, HBwr1, kt_0_0, kt_0_1, Okind_1l0⟩ := hrel
        rename World => wr1
        cases gk with
        | zero =>
          obtain rfl : k1 = t_bans.length := by omega
          have hc1 : decide (((t_bans.length : Nat) : Int) < ((t_bans.length : Nat) : Int)) = false := by simp
          replace H := cnt_zero H
          unfold e1 at H
          cases ret_hid H
          go_wp2_with fail
          try simp only [Exit.noGoto]
          go_wp2_with fail
          go_ret2
          have hr_0 := hnkind_1l0.out
          replace Okind_1l0 := Lib.hid (own_len hr_0 Okind_1l0.out)
          exact ⟨A1, c1, (by first | (rw [hr_0]; done) | (rw [hr_0]; rfl)), Okind_1l0.out, HBwr1.out, Go.Proofs.Ytekacbjnpeglhaa.GoK.from_self⟩
        | succ m1 =>
          have hlt1 : k1 < t_bans.length := by omega
          have hc1 : decide ((k1 : Int) < ((t_bans.length : Nat) : Int)) = true := by simp; omega
          replace H := cnt_succ H
          unfold l1 at H
          replace H := idx_hid H
          obtain ⟨nt_8, yt_8, et_8, lt_8, gt_8, H⟩ := H
          obtain rfl : k1 = nt_8 := by omega
          clear et_8
          obtain ⟨t_8_a, t_8_x, t_8_b, t_8_y⟩ := yt_8
          replace H := unBan_hid H
          obtain ⟨ab_t_8, ao_t_8, zt_8, At_8, z_t_8, ct_8_0, ct_8_1, ct_8_2, ct_8_3⟩ := Go.Proofs.Ytekacbjnpeglhaa.OBan.at_ M0_1.out lt_8
          obtain rfl := Option.some.inj (gt_8.out.symm.trans z_t_8)
          subst At_8
          have ltt_8 := cell_lt ct_8_0
          replace ct_8_0 := cell_other ct_8_0 HBwr1.out (Go.Proofs.Ytekacbjnpeglhaa.GoK.apart_xio X0_1.out (by omega))
          replace ct_8_1 := cell_other ct_8_1 HBwr1.out (Go.Proofs.Ytekacbjnpeglhaa.GoK.apart_xio X0_1.out (by omega))
          replace ct_8_2 := cell_other ct_8_2 HBwr1.out (Go.Proofs.Ytekacbjnpeglhaa.GoK.apart_xio X0_1.out (by omega))
          replace ct_8_3 := cell_other ct_8_3 HBwr1.out (Go.Proofs.Ytekacbjnpeglhaa.GoK.apart_xio X0_1.out (by omega))
          clear z_t_8
          have b0t_8 : (0 : Int) ≤ (k1 : Int) := by omega
          have b1t_8 : (k1 : Int) < ((t_bans.length : Nat) : Int) := by omega
          have b2t_8 : ((k1 : Int)).toNat = k1 := by omega
          obtain ⟨w_b_10, hw_b_10⟩ : ∃ x, wr1.alloc (.cells #[.int .i64 t_8_a, .int .i64 t_8_x, .int .i64 t_8_b, .int .i64 t_8_y] 57) = x := ⟨_, rfl⟩
          have bw_b_10 : Below wr1.heap.size wr1 w_b_10 := by rw [← hw_b_10]; exact (Below.refl _ _).alloc (Nat.le_refl _) _
          have Db_10_kind_1l0 := Lib.hid (apart_fresh Okind_1l0.out)
          have HBw_b_10 := Lib.hid (grown_below HBwr1.out bw_b_10)
          have kt_0_0__140 := cell_below bw_b_10 kt_0_0
          have kt_0_1__141 := cell_below bw_b_10 kt_0_1
          have ct_8_0__142 := cell_below bw_b_10 ct_8_0
          have ct_8_1__143 := cell_below bw_b_10 ct_8_1
          have ct_8_2__144 := cell_below bw_b_10 ct_8_2
          have ct_8_3__145 := cell_below bw_b_10 ct_8_3
          replace Okind_1l0 := Lib.hid (own_below Okind_1l0.out bw_b_10)
          clear bw_b_10
          have kb_10_0 : w_b_10.cell? ⟨wr1.heap.size, 0, none⟩ = some (.int .i64 t_8_a) := by rw [← hw_b_10]; exact box_new _ _ _ 0 _ rfl
          have kb_10_1 : w_b_10.cell? ⟨wr1.heap.size, 1, none⟩ = some (.int .i64 t_8_x) := by rw [← hw_b_10]; exact box_new _ _ _ 1 _ rfl
          have kb_10_2 : w_b_10.cell? ⟨wr1.heap.size, 2, none⟩ = some (.int .i64 t_8_b) := by rw [← hw_b_10]; exact box_new _ _ _ 2 _ rfl
          have kb_10_3 : w_b_10.cell? ⟨wr1.heap.size, 3, none⟩ = some (.int .i64 t_8_y) := by rw [← hw_b_10]; exact box_new _ _ _ 3 _ rfl
          replace H := bind_hid H
          obtain ⟨t_14, qt_14, H⟩ := H
          go_wp2_with fail
          clear kt_0_0 kt_0_1 ct_8_0 ct_8_1 ct_8_2 ct_8_3
          have hc0_ := hnkind_1l0.out
          have Oct_14_1 := Lib.hid (own_len hc0_ Okind_1l0.out)
          have con_ := Go.Proofs.Ytekacbjnpeglhaa.GiForbids.C ((Go.Proofs.Ytekacbjnpeglhaa.PBan.Ban.mk t_8_a t_8_x t_8_b t_8_y)) (kind_1l0) A1 c1 _   (Lib.hid (own_cells Oct_14_1.out)) (Lib.hid (own_max Oct_14_1.out)) qt_14
          rw [hc0_] at con_
          clear hc0_ Oct_14_1
          go_at_call 64
          refine con_.mono ?_
          rintro e_t_14 wt_14 ⟨rfl, bt_14⟩
          have HBwt_14 := Lib.hid (grown_below HBw_b_10.out bt_14)
          replace kt_0_0__140 := cell_below bt_14 kt_0_0__140
          replace kt_0_1__141 := cell_below bt_14 kt_0_1__141
          replace ct_8_0__142 := cell_below bt_14 ct_8_0__142
          replace ct_8_1__143 := cell_below bt_14 ct_8_1__143
          replace ct_8_2__144 := cell_below bt_14 ct_8_2__144
          replace ct_8_3__145 := cell_below bt_14 ct_8_3__145
          replace kb_10_0 := cell_below bt_14 kb_10_0
          replace kb_10_1 := cell_below bt_14 kb_10_1
          replace kb_10_2 := cell_below bt_14 kb_10_2
          replace kb_10_3 := cell_below bt_14 kb_10_3
          replace Okind_1l0 := Lib.hid (own_below Okind_1l0.out bt_14)
          clear bt_14
          cases t_14 with
          | false =>
            replace H := let_hid H
            obtain ⟨t_15, ht_15, H⟩ := H
            obtain rfl : t_15 = true := ht_15.symm
            replace H := ite_t H
            replace H := app_hid H
            go_wp2_with fail
            go_roundg m1
            case measure => omega
            case rel => exact ⟨k1 + 1, by omega, by go_num, H, HBwt_14, kt_0_0__140, kt_0_1__141, Okind_1l0⟩
          | true =>
            replace H := let_hid H
            obtain ⟨t_15, ht_15, H⟩ := H
            obtain rfl : t_15 = false := ht_15.symm
            replace H := ite_f H
            replace H := bind2_hid H
            obtain ⟨t_21, lt_21, qt_21, H⟩ := H
            go_wp2_with fail
            have hc0_ := hnkind_1l0.out
            have Oct_21_1 := Lib.hid (own_len hc0_ Okind_1l0.out)
            have con_ := Go.Proofs.Ytekacbjnpeglhaa.GiAdvance.C fuel (t_sizes) (kind_1l0) (t_8_b) A0_0 c0_0 A1 c1 b0 _   (Lib.hid (Go.Proofs.Ytekacbjnpeglhaa.GoK.cells_wr M0_0.out HBwt_14.out X0_0.out)) N0_0 Oct_21_1 (Lib.hid (own_max Oct_21_1.out))  X0_0 qt_21
            rw [hc0_] at con_
            clear hc0_ Oct_21_1
            go_at_call 97
            refine con_.mono ?_
            rintro e_t_21 wt_21 ⟨rfl, ot_21, nt_21, gt_21⟩
            have Pt_21 := Lib.hid ot_21
            have Gt_21 := Lib.hid gt_21
            replace nt_21 := Lib.hid nt_21
            clear ot_21 gt_21
            have HBwt_21 := Lib.hid (Aid.grown_tr HBwt_14.out Gt_21.out)
            replace kt_0_0__140 := cell_other kt_0_0__140 Gt_21.out Dkind_1l0_t_0.out
            replace kt_0_1__141 := cell_other kt_0_1__141 Gt_21.out Dkind_1l0_t_0.out
            replace ct_8_0__142 := cell_other ct_8_0__142 Gt_21.out (Go.Proofs.Ytekacbjnpeglhaa.GoK.apart_xio X0_1.out (by have := lt_8; omega))
            replace ct_8_1__143 := cell_other ct_8_1__143 Gt_21.out (Go.Proofs.Ytekacbjnpeglhaa.GoK.apart_xio X0_1.out (by have := lt_8; omega))
            replace ct_8_2__144 := cell_other ct_8_2__144 Gt_21.out (Go.Proofs.Ytekacbjnpeglhaa.GoK.apart_xio X0_1.out (by have := lt_8; omega))
            replace ct_8_3__145 := cell_other ct_8_3__145 Gt_21.out (Go.Proofs.Ytekacbjnpeglhaa.GoK.apart_xio X0_1.out (by have := lt_8; omega))
            replace kb_10_0 := cell_other kb_10_0 Gt_21.out (Apart.symm Db_10_kind_1l0.out)
            replace kb_10_1 := cell_other kb_10_1 Gt_21.out (Apart.symm Db_10_kind_1l0.out)
            replace kb_10_2 := cell_other kb_10_2 Gt_21.out (Apart.symm Db_10_kind_1l0.out)
            replace kb_10_3 := cell_other kb_10_3 Gt_21.out (Apart.symm Db_10_kind_1l0.out)
            clear Okind_1l0 Gt_21
            cases t_21 with
            | false =>
              replace H := let_hid H
              obtain ⟨t_22, ht_22, H⟩ := H
              obtain rfl : t_22 = true := ht_22.symm
              replace H := ite_t H
              obtain ⟨w_t_23, hw_t_23⟩ : ∃ x, wt_21.alloc (.cells #[] 3) = x := ⟨_, rfl⟩
              have bw_t_23 : Below wt_21.heap.size wt_21 w_t_23 := by rw [← hw_t_23]; exact (Below.refl _ _).alloc (Nat.le_refl _) _
              have lot_23 : Hid (w.heap.size ≤ wt_21.heap.size) := Lib.hid HBwt_21.out.size
              have Ot_23 : Hid (w_t_23.ownsRow b0 3 1 (.slice (some ⟨wt_21.heap.size, 0, none⟩) 0 0) 0 []) := Lib.hid (by rw [← hw_t_23]; exact Go.Proofs.Ytekacbjnpeglhaa.GoK.own_emptyB (Nat.le_trans LB.out lot_23.out))
              have Dt_23_kind_1l0 := Lib.hid (apart_fresh Pt_21.out)
              have Dt_23_t_0 := Lib.hid (apart_box kt_0_0__140)
              have Dt_23_b_10 := Lib.hid (apart_box kb_10_0)
              have HBw_t_23 := Lib.hid (grown_below HBwt_21.out bw_t_23)
              have kt_0_0__146 := cell_below bw_t_23 kt_0_0__140
              have kt_0_1__147 := cell_below bw_t_23 kt_0_1__141
              have ct_8_0__148 := cell_below bw_t_23 ct_8_0__142
              have ct_8_1__149 := cell_below bw_t_23 ct_8_1__143
              have ct_8_2__150 := cell_below bw_t_23 ct_8_2__144
              have ct_8_3__151 := cell_below bw_t_23 ct_8_3__145
              have kb_10_0__152 := cell_below bw_t_23 kb_10_0
              have kb_10_1__153 := cell_below bw_t_23 kb_10_1
              have kb_10_2__154 := cell_below bw_t_23 kb_10_2
              have kb_10_3__155 := cell_below bw_t_23 kb_10_3
              replace Pt_21 := Lib.hid (own_below Pt_21.out bw_t_23)
              clear bw_t_23
              cases ret_hid H
              go_wp2_with fail
              try simp only [Exit.noGoto]
              go_wp2_with fail
              go_ret2
              exact ⟨(some ⟨wt_21.heap.size, 0, none⟩), 0, rfl, Ot_23.out, HBw_t_23.out, (Go.Proofs.Ytekacbjnpeglhaa.GoK.from_new lot_23.out)⟩
            | true =>
              replace H := let_hid H
              obtain ⟨t_22, ht_22, H⟩ := H
              obtain rfl : t_22 = false := ht_22.symm
              replace H := ite_f H
              replace H := app_hid H
              go_wp2_with fail
              go_roundg m0
              case measure => omega
              case rel => exact ⟨_, H, HBwt_21, kt_0_0__140, kt_0_1__141, Pt_21, Lib.hid (nt_21.out), Lib.hid Dkind_1l0_t_0.out⟩
end Go.Proofs.Ytekacbjnpeglhaa.GiFirstFrom

/- loop.example/g01062/impl.firstOf as a plain function, and the contract of the program's: where the plain one has an answer, the program has it. Conditions: slices read as lists. -/
namespace Go.Proofs.Ytekacbjnpeglhaa.GiFirstOf
set_option linter.unusedVariables false
set_option linter.unusedSimpArgs false
open Go.RowKit
open Go.Proofs.Ytekacbjnpeglhaa.Rowed Go.Proofs.Ytekacbjnpeglhaa.Turn Go.Proofs.Ytekacbjnpeglhaa.Aid Go.Proofs.Ytekacbjnpeglhaa.GoP Go.Proofs.Ytekacbjnpeglhaa.GoM

def P (fuel : Nat) (t_sizes : (List Int)) (t_bans : (List Go.Proofs.Ytekacbjnpeglhaa.PBan.Ban)) : Option ((List Int) × Bool) :=
  guardK (0 ≤ (t_sizes.length : Int) ∧ (t_sizes.length : Int) ≤ 1099511627776) <|
  letK (List.replicate t_sizes.length 0) fun (t_7 : (List Int)) =>
  bind2 (Go.Proofs.Ytekacbjnpeglhaa.GiFirstFrom.P fuel t_sizes t_bans t_7) fun (t_8a : (List Int)) (t_8b : Bool) =>
  some (t_8a, t_8b)

set_option maxRecDepth 100000 in
set_option maxHeartbeats 2000000 in
theorem C (fuel : Nat) (t_sizes : (List Int)) (t_bans : (List Go.Proofs.Ytekacbjnpeglhaa.PBan.Ban)) (A0_0 : Option Addr) (c0_0 : Nat) (A0_1 : Option Addr) (c0_1 : Nat)  (w : World) (M0_0 : Hid (Cells w 1 A0_0 t_sizes.length (Go.Proofs.Ytekacbjnpeglhaa.HelpInt.iv t_sizes))) (N0_0 : Hid (t_sizes.length ≤ 9223372036854775807)) (M0_1 : Hid (Cells w 4 A0_1 t_bans.length (Go.Proofs.Ytekacbjnpeglhaa.PBan.flat t_bans))) (N0_1 : Hid (t_bans.length ≤ 9223372036854775807))  {r0 : (List Int)} {r1 : Bool} (H : Hid (P fuel t_sizes t_bans = some (r0, r1))) :
    Calls Try.prog 68 #[.agg #[.slice A0_0 t_sizes.length c0_0, .slice A0_1 t_bans.length c0_1]] w (fun e w' => ∃ A_r0 c_r0, e = .returned (.tuple #[.slice A_r0 r0.length c_r0, .bool r1]) ∧ w'.ownsRow w.heap.size 3 1 (.slice A_r0 r0.length c_r0) r0.length (Go.Proofs.Ytekacbjnpeglhaa.HelpInt.iv r0) ∧ Below w.heap.size w w') := by
  have HB := Lib.hid (Below.refl w.heap.size w)
  unfold P at H
  have N0_0o := N0_0.out
  have N0_1o := N0_1.out
  obtain ⟨i0_3, hi_3, hz0_3, hz1_3, hz2_3⟩ := Aid.info_parts (P := Try.prog) (T := 3) (z := .int .i64 0) (s := 1) (b := 8) (by kernel_rfl)
  go_enter Try.func68, Try.ntmps68
  obtain ⟨w_t_0, hw_t_0⟩ : ∃ x, w.alloc (.cells #[.slice A0_0 t_sizes.length c0_0, .slice A0_1 t_bans.length c0_1] 30) = x := ⟨_, rfl⟩
  have bw_t_0 : Below w.heap.size w w_t_0 := by rw [← hw_t_0]; exact (Below.refl _ _).alloc (Nat.le_refl _) _
  have HBw_t_0 := Lib.hid (Below.step HB.out bw_t_0)
  clear bw_t_0
  have kt_0_0 : w_t_0.cell? ⟨w.heap.size, 0, none⟩ = some (.slice A0_0 t_sizes.length c0_0) := by rw [← hw_t_0]; exact box_new _ _ _ 0 _ rfl
  have kt_0_1 : w_t_0.cell? ⟨w.heap.size, 1, none⟩ = some (.slice A0_1 t_bans.length c0_1) := by rw [← hw_t_0]; exact box_new _ _ _ 1 _ rfl
  go_wp2_with fail
  have bd1 : Below w_t_0.heap.size w_t_0 w_t_0.drew := (Below.refl _ _).drew
  have HBw_t_0.drew := Lib.hid (Below.step HBw_t_0.out bd1)
  replace kt_0_0 := cell_below bd1 kt_0_0
  replace kt_0_1 := cell_below bd1 kt_0_1
  clear bd1
  replace H := guard_hid H
  obtain ⟨hnt_7, H⟩ := H
  replace H := let_hid H
  obtain ⟨t_7, ht_7, H⟩ := H
  have hst_7 := HBw_t_0.drew.out.size
  have hlt_7 : t_7.length = t_sizes.length := by rw [← ht_7]; simp
  have hht_7 := Lib.hid ht_7
  clear ht_7
  have Dt_7_t_0 := Lib.hid (apart_box kt_0_0)
  obtain ⟨wt_7, rt_7, ot_7, gt_7⟩ := run_make_full (P := Try.prog) (w := w_t_0.drew) w.heap.size 22 3 i0_3 (.int .i64 0) 1 Try.underlying22 hi_3 hz0_3 hz1_3 .i64 .i64 t_sizes.length (by rw [hz2_3]; omega) (by unfold maxLen; omega) hst_7
  have Qt_7 := Lib.hid ot_7
  have Gt_7 := Lib.hid gt_7
  clear ot_7 gt_7
  have Et_7 : (Go.Proofs.Ytekacbjnpeglhaa.HelpInt.iv t_7) = (madeCells (.int .i64 0 : Value).cells (t_sizes.length * 1)).toList := by
    rw [made_flat (fun x => [.int .i64 x]) 0 _ 1 _ rfl rfl (by decide), ← hht_7.out]
    exact map_flat _ _
  have Pt_7 : Hid (wt_7.ownsRow w.heap.size 3 1 (.slice (some ⟨w_t_0.drew.heap.size, 0, none⟩) t_sizes.length t_sizes.length) t_sizes.length (Go.Proofs.Ytekacbjnpeglhaa.HelpInt.iv t_7)) := Lib.hid (by rw [Et_7]; exact Qt_7.out)
  clear Et_7
  replace hlt_7 := Lib.hid hlt_7
  clear Qt_7 hst_7
  have bt_7 : Below w_t_0.drew.heap.size w_t_0.drew wt_7 := (Below.refl _ _).grown Gt_7.out (Nat.le_refl _) (by simp)
  clear Gt_7
  have HBwt_7 := Lib.hid (Below.step HBw_t_0.drew.out bt_7)
  have kt_0_0__156 := cell_below bt_7 kt_0_0
  have kt_0_1__157 := cell_below bt_7 kt_0_1
  clear bt_7
  replace H := bind2_hid H
  obtain ⟨t_8a, t_8b, qt_8, H⟩ := H
  go_region_held3 (fun w' => w'.cell? ⟨w.heap.size, 0, none⟩ = some (.slice A0_0 t_sizes.length c0_0) ∧ w'.cell? ⟨w.heap.size, 1, none⟩ = some (.slice A0_1 t_bans.length c0_1)) (first | exact ⟨kt_0_0, kt_0_1⟩ | exact ⟨kt_0_0__156, kt_0_1__157⟩)
      (first
        | (have hc0_ := hlt_7.out
           have Oct_8_1 := Lib.hid (own_len hc0_ Pt_7.out)
           have con_ := Go.Proofs.Ytekacbjnpeglhaa.GiFirstFrom.C fuel (t_sizes) (t_bans) (t_7) A0_0 c0_0 A0_1 c0_1 (some ⟨w_t_0.drew.heap.size, 0, none⟩) t_sizes.length w.heap.size _   (Lib.hid (Cells.below M0_0.out HBwt_7.out)) N0_0 (Lib.hid (Cells.below M0_1.out HBwt_7.out)) N0_1 Oct_8_1 (Lib.hid (own_max Oct_8_1.out)) (Lib.hid HBwt_7.out.size) (Lib.hid (Go.Proofs.Ytekacbjnpeglhaa.GoK.far_base (by decide) M0_0.out Oct_8_1.out)) (Lib.hid (Go.Proofs.Ytekacbjnpeglhaa.GoK.far_base (by decide) M0_1.out Oct_8_1.out)) qt_8
           rw [hc0_] at con_
           clear hc0_ Oct_8_1
           go_at_call 96
           refine con_.mono ?_
           rintro e_t_8 wt_8 ⟨At_8a, ct_8a, rfl, ot_8, gt_8, yt_8⟩
           have Pt_8 := Lib.hid ot_8
           have Gt_8 := Lib.hid gt_8
           replace yt_8 := Lib.hid yt_8
           clear ot_8 gt_8
           have HBwt_8 := Lib.hid (HBwt_7.out.grown Gt_8.out HBwt_7.out.size (fun q hq => (Pt_7.out.lt q hq).1))
           have Dt_8a_t_0 : Hid (Apart At_8a _) := Lib.hid (Go.Proofs.Ytekacbjnpeglhaa.GoK.apart_from Dt_7_t_0.out (fun a_ ha_ => by cases ha_; exact cell_lt kt_0_0__156) yt_8.out)
           replace kt_0_0__156 := cell_other kt_0_0__156 Gt_8.out Dt_7_t_0.out
           replace kt_0_1__157 := cell_other kt_0_1__157 Gt_8.out Dt_7_t_0.out
           clear rt_7 kt_0_0 kt_0_1
           clear Pt_7 Gt_8 yt_8
           clear qt_8))
  cases ret_hid H
  go_wp2_with fail
  go_ret2
  exact ⟨At_8a, ct_8a, rfl, Pt_8.out, HBwt_8.out⟩
end Go.Proofs.Ytekacbjnpeglhaa.GiFirstOf

/- loop.example/g01062/impl.FirstKind as a plain function, and the contract of the program's: where the plain one has an answer, the program has it. Conditions: slices read as lists. -/
namespace Go.Proofs.Ytekacbjnpeglhaa.GiFirstKind
set_option linter.unusedVariables false
set_option linter.unusedSimpArgs false
open Go.RowKit
open Go.Proofs.Ytekacbjnpeglhaa.Rowed Go.Proofs.Ytekacbjnpeglhaa.Turn Go.Proofs.Ytekacbjnpeglhaa.Aid Go.Proofs.Ytekacbjnpeglhaa.GoP Go.Proofs.Ytekacbjnpeglhaa.GoM

def P (fuel : Nat) (t_sizes : (List Int)) (t_bans : (List Go.Proofs.Ytekacbjnpeglhaa.PBan.Ban)) : Option ((List Int) × Bool) :=
  Option.bind (Go.Proofs.Ytekacbjnpeglhaa.GiIsKindTable.P t_sizes t_bans) fun (t_4 : Bool) =>
  letK (!t_4) fun (t_5 : Bool) =>
  iteK t_5
  (some (([] : List Int), false))
  (bind2 (Go.Proofs.Ytekacbjnpeglhaa.GiFirstOf.P fuel t_sizes t_bans) fun (t_10a : (List Int)) (t_10b : Bool) =>
  some (t_10a, t_10b))

set_option maxRecDepth 100000 in
set_option maxHeartbeats 2000000 in
theorem C (fuel : Nat) (t_sizes : (List Int)) (t_bans : (List Go.Proofs.Ytekacbjnpeglhaa.PBan.Ban)) (A0_0 : Option Addr) (c0_0 : Nat) (A0_1 : Option Addr) (c0_1 : Nat)  (w : World) (M0_0 : Hid (Cells w 1 A0_0 t_sizes.length (Go.Proofs.Ytekacbjnpeglhaa.HelpInt.iv t_sizes))) (N0_0 : Hid (t_sizes.length ≤ 9223372036854775807)) (M0_1 : Hid (Cells w 4 A0_1 t_bans.length (Go.Proofs.Ytekacbjnpeglhaa.PBan.flat t_bans))) (N0_1 : Hid (t_bans.length ≤ 9223372036854775807))  {r0 : (List Int)} {r1 : Bool} (H : Hid (P fuel t_sizes t_bans = some (r0, r1))) :
    Calls Try.prog 25 #[.agg #[.slice A0_0 t_sizes.length c0_0, .slice A0_1 t_bans.length c0_1]] w (fun e w' => ∃ A_r0 c_r0, e = .returned (.tuple #[.slice A_r0 r0.length c_r0, .bool r1]) ∧ w'.ownsRow w.heap.size 3 1 (.slice A_r0 r0.length c_r0) r0.length (Go.Proofs.Ytekacbjnpeglhaa.HelpInt.iv r0) ∧ Below w.heap.size w w') := by
  have HB := Lib.hid (Below.refl w.heap.size w)
  unfold P at H
  have N0_0o := N0_0.out
  have N0_1o := N0_1.out
  go_enter Try.func25, Try.ntmps25
  obtain ⟨w_t_0, hw_t_0⟩ : ∃ x, w.alloc (.cells #[.slice A0_0 t_sizes.length c0_0, .slice A0_1 t_bans.length c0_1] 30) = x := ⟨_, rfl⟩
  have bw_t_0 : Below w.heap.size w w_t_0 := by rw [← hw_t_0]; exact (Below.refl _ _).alloc (Nat.le_refl _) _
  have HBw_t_0 := Lib.hid (Below.step HB.out bw_t_0)
  clear bw_t_0
  have kt_0_0 : w_t_0.cell? ⟨w.heap.size, 0, none⟩ = some (.slice A0_0 t_sizes.length c0_0) := by rw [← hw_t_0]; exact box_new _ _ _ 0 _ rfl
  have kt_0_1 : w_t_0.cell? ⟨w.heap.size, 1, none⟩ = some (.slice A0_1 t_bans.length c0_1) := by rw [← hw_t_0]; exact box_new _ _ _ 1 _ rfl
  replace H := bind_hid H
  obtain ⟨t_4, qt_4, H⟩ := H
  go_wp2_with fail
  go_at_call 16
  refine (Go.Proofs.Ytekacbjnpeglhaa.GiIsKindTable.C (t_sizes) (t_bans) A0_0 c0_0 A0_1 c0_1 _   (Lib.hid (Cells.below M0_0.out HBw_t_0.out)) N0_0 (Lib.hid (Cells.below M0_1.out HBw_t_0.out)) N0_1 qt_4).mono ?_
  rintro e_t_4 wt_4 ⟨rfl, bt_4⟩
  have HBwt_4 := Lib.hid (Below.step HBw_t_0.out bt_4)
  replace kt_0_0 := cell_below bt_4 kt_0_0
  replace kt_0_1 := cell_below bt_4 kt_0_1
  clear bt_4
  cases t_4 with
  | false =>
    replace H := let_hid H
    obtain ⟨t_5, ht_5, H⟩ := H
    obtain rfl : t_5 = true := ht_5.symm
    replace H := ite_t H
    obtain ⟨w_t_6, hw_t_6⟩ : ∃ x, wt_4.alloc (.cells #[] 3) = x := ⟨_, rfl⟩
    have bw_t_6 : Below wt_4.heap.size wt_4 w_t_6 := by rw [← hw_t_6]; exact (Below.refl _ _).alloc (Nat.le_refl _) _
    have Ot_6 : Hid (w_t_6.ownsRow w.heap.size 3 1 (.slice (some ⟨wt_4.heap.size, 0, none⟩) 0 0) 0 []) := Lib.hid (by rw [← hw_t_6]; exact own_empty HBwt_4.out.size)
    have Dt_6_t_0 := Lib.hid (apart_box kt_0_0)
    have HBw_t_6 := Lib.hid (Below.step HBwt_4.out bw_t_6)
    have kt_0_0__188 := cell_below bw_t_6 kt_0_0
    have kt_0_1__189 := cell_below bw_t_6 kt_0_1
    clear bw_t_6
    cases ret_hid H
    go_wp2_with fail
    go_ret2
    exact ⟨(some ⟨wt_4.heap.size, 0, none⟩), 0, rfl, Ot_6.out, HBw_t_6.out⟩
  | true =>
    replace H := let_hid H
    obtain ⟨t_5, ht_5, H⟩ := H
    obtain rfl : t_5 = false := ht_5.symm
    replace H := ite_f H
    replace H := bind2_hid H
    obtain ⟨t_10a, t_10b, qt_10, H⟩ := H
    go_wp2_with fail
    go_at_call 68
    refine (Go.Proofs.Ytekacbjnpeglhaa.GiFirstOf.C fuel (t_sizes) (t_bans) A0_0 c0_0 A0_1 c0_1 _   (Lib.hid (Cells.below M0_0.out HBwt_4.out)) N0_0 (Lib.hid (Cells.below M0_1.out HBwt_4.out)) N0_1 qt_10).mono ?_
    rintro e_t_10 wt_10 ⟨At_10a, ct_10a, rfl, ot_10a, bt_10⟩
    have Dt_10a_t_0 := Lib.hid (apart_callbox ot_10a kt_0_0)
    have Ot_10a := Lib.hid (own_lower ot_10a HBwt_4.out.size)
    clear ot_10a
    have HBwt_10 := Lib.hid (Below.step HBwt_4.out bt_10)
    replace kt_0_0 := cell_below bt_10 kt_0_0
    replace kt_0_1 := cell_below bt_10 kt_0_1
    clear bt_10
    cases ret_hid H
    go_wp2_with fail
    go_ret2
    exact ⟨At_10a, ct_10a, rfl, Ot_10a.out, HBwt_10.out⟩
end Go.Proofs.Ytekacbjnpeglhaa.GiFirstKind

/- loop.example/g01062/laws.eqIntS as a plain function, and the contract of the program's: where the plain one has an answer, the program has it. Conditions: slices read as lists. -/
namespace Go.Proofs.Ytekacbjnpeglhaa.GlEqIntS
set_option linter.unusedVariables false
set_option linter.unusedSimpArgs false
open Go.RowKit
open Go.Proofs.Ytekacbjnpeglhaa.Rowed Go.Proofs.Ytekacbjnpeglhaa.Turn Go.Proofs.Ytekacbjnpeglhaa.Aid Go.Proofs.Ytekacbjnpeglhaa.GoP Go.Proofs.Ytekacbjnpeglhaa.GoM

def l0 (a : (List Int)) (b : (List Int)) (k0 : Nat) (s : Unit) (nx0 bk0 : Unit → Option (Bool)) : Option (Bool) :=
  
  Option.bind (idx a (k0 : Int)) fun (yt_14 : Int) =>
  Option.bind (idx b (k0 : Int)) fun (yt_18 : Int) =>
  letK (yt_14 != yt_18) fun (t_20 : Bool) =>
  iteK t_20
  (some false)
  (appK nx0 ())

def e0  (s : Unit) : Option (Bool) :=
  
  some true

def P (a : (List Int)) (b : (List Int)) : Option (Bool) :=
  letK ((a.length : Int) != (b.length : Int)) fun (t_5 : Bool) =>
  iteK t_5
  (some false)
  (cntK (l0 a b) (a.length) 0 () (e0 ))

set_option maxRecDepth 100000 in
set_option maxHeartbeats 2000000 in
theorem C (a : (List Int)) (b : (List Int)) (A0 : Option Addr) (c0 : Nat) (A1 : Option Addr) (c1 : Nat)  (w : World) (M0 : Hid (Cells w 1 A0 a.length (Go.Proofs.Ytekacbjnpeglhaa.HelpInt.iv a))) (N0 : Hid (a.length ≤ 9223372036854775807)) (M1 : Hid (Cells w 1 A1 b.length (Go.Proofs.Ytekacbjnpeglhaa.HelpInt.iv b))) (N1 : Hid (b.length ≤ 9223372036854775807))  {r : Bool} (H : Hid (P a b = some r)) :
    Calls Try.prog 21 #[.slice A0 a.length c0, .slice A1 b.length c1] w (Gives (.bool r) w) := by
  have HB := Lib.hid (Below.refl w.heap.size w)
  unfold P at H
  have N0o := N0.out
  have N1o := N1.out
  go_enter Try.func21, Try.ntmps21
  replace H := let_hid H
  obtain ⟨t_5, ht_5, H⟩ := H
  cases t_5 with
  | false =>
    have Hht_5 : Hid (a.length = b.length) := Lib.hid (by have := bne_eq_false_iff_eq.1 ht_5; omega)
    have nht_5 : (a.length == b.length) = true := beq_iff_eq.2 Hht_5.out
    replace H := ite_f H
    go_wp2_with fail
    go_loopg [5] (a.length) (fun m_ v5_ wr => ∃ (k0 : Nat) , k0 + m_ = a.length ∧ v5_ = .int .i64 (k0 : Int) ∧ Hid (cntK (l0 a b) m_ k0 () (e0 ) = some r) ∧ Hid (Below w.heap.size w wr))
    case atStart => exact ⟨0, by omega, rfl, H, HB⟩
    case round =>
      obtain ⟨k0, hkm0, rfl, H, HBwr0⟩ := hrel
      rename World => wr0
      cases gk with
      | zero =>
        obtain rfl : k0 = a.length := by omega
        have hc0 : decide (((a.length : Nat) : Int) < ((a.length : Nat) : Int)) = false := by simp
        replace H := cnt_zero H
        unfold e0 at H
        obtain rfl := ret_hid H
        go_wp2_with fail
        go_ret
        exact ⟨rfl, HBwr0.out⟩
      | succ m0 =>
        have hlt0 : k0 < a.length := by omega
        have hc0 : decide ((k0 : Int) < ((a.length : Nat) : Int)) = true := by simp; omega
        replace H := cnt_succ H
        unfold l0 at H
        go_wp2_with fail
        replace H := idx_hid H
        obtain ⟨nt_14, yt_14, et_14, lt_14, gt_14, H⟩ := H
        obtain rfl : k0 = nt_14 := by omega
        clear et_14
        obtain ⟨ab_t_14, ao_t_14, zt_14, At_14, z_t_14, ct_14_0⟩ := Go.Proofs.Ytekacbjnpeglhaa.HelpInt.Ints.at_ M0.out lt_14
        obtain rfl := Option.some.inj (gt_14.out.symm.trans z_t_14)
        subst At_14
        have ltt_14 := cell_lt ct_14_0
        replace ct_14_0 := cell_below HBwr0.out ct_14_0
        clear z_t_14
        have b0t_14 : (0 : Int) ≤ (k0 : Int) := by omega
        have b1t_14 : (k0 : Int) < ((a.length : Nat) : Int) := by omega
        have b2t_14 : ((k0 : Int)).toNat = k0 := by omega
        have Hct_14_0 := Lib.hid ct_14_0
        replace ct_14_0 := cell_regrown ct_14_0
        replace H := idx_hid H
        obtain ⟨nt_18, yt_18, et_18, lt_18, gt_18, H⟩ := H
        obtain rfl : k0 = nt_18 := by omega
        clear et_18
        obtain ⟨ab_t_18, ao_t_18, zt_18, At_18, z_t_18, ct_18_0⟩ := Go.Proofs.Ytekacbjnpeglhaa.HelpInt.Ints.at_ M1.out lt_18
        obtain rfl := Option.some.inj (gt_18.out.symm.trans z_t_18)
        subst At_18
        have ltt_18 := cell_lt ct_18_0
        replace ct_18_0 := cell_below HBwr0.out ct_18_0
        clear z_t_18
        have b0t_18 : (0 : Int) ≤ (k0 : Int) := by omega
        have b1t_18 : (k0 : Int) < ((b.length : Nat) : Int) := by omega
        have b2t_18 : ((k0 : Int)).toNat = k0 := by omega
        have Hct_18_0 := Lib.hid ct_18_0
        replace ct_18_0 := cell_regrown ct_18_0
        replace H := let_hid H
        obtain ⟨t_20, ht_20, H⟩ := H
        refine wp_region_quiet_below (by kernel_rfl) (by kernel_rfl) ?_
        repeat (go_big_quiet_step (fail))
        refine wpQuiet_nil ?_
        intro Y6 hY6
        replace hY6 := below_class hY6
        replace ct_14_0 := Hct_14_0.out
        clear Hct_14_0
        replace ct_18_0 := Hct_18_0.out
        clear Hct_18_0
        have HBY6 := Lib.hid (Below.step HBwr0.out hY6)
        replace ct_14_0 := cell_below hY6 ct_14_0
        replace ct_18_0 := cell_below hY6 ct_18_0
        clear hY6
        cases t_20 with
        | false =>
          replace H := ite_f H
          replace H := app_hid H
          go_wp2_with fail
          go_roundg m0
          case measure => omega
          case rel => exact ⟨k0 + 1, by omega, by go_num, H, HBY6⟩
        | true =>
          replace H := ite_t H
          obtain rfl := ret_hid H
          go_wp2_with fail
          go_ret
          exact ⟨rfl, HBY6.out⟩
  | true =>
    have nht_5 : ¬ (a.length = b.length) := by have := bne_iff_ne.1 ht_5; omega
    replace H := ite_t H
    obtain rfl := ret_hid H
    go_wp2_with fail
    go_ret
    exact ⟨rfl, HB.out⟩
end Go.Proofs.Ytekacbjnpeglhaa.GlEqIntS

/- loop.example/g01062/laws.eqBan as a plain function, and the contract of the program's: where the plain one has an answer, the program has it. Conditions: slices read as lists. -/
namespace Go.Proofs.Ytekacbjnpeglhaa.GlEqBan
set_option linter.unusedVariables false
set_option linter.unusedSimpArgs false
open Go.RowKit
open Go.Proofs.Ytekacbjnpeglhaa.Rowed Go.Proofs.Ytekacbjnpeglhaa.Turn Go.Proofs.Ytekacbjnpeglhaa.Aid Go.Proofs.Ytekacbjnpeglhaa.GoP Go.Proofs.Ytekacbjnpeglhaa.GoM

def P (a : Go.Proofs.Ytekacbjnpeglhaa.PBan.Ban) (b : Go.Proofs.Ytekacbjnpeglhaa.PBan.Ban) : Option (Bool) :=
  unBan a fun (a_a : Int) (a_x : Int) (a_b : Int) (a_y : Int) =>
  unBan b fun (b_a : Int) (b_x : Int) (b_b : Int) (b_y : Int) =>
  letK (a_a != b_a) fun (t_7 : Bool) =>
  iteK t_7
  (some false)
  (letK (a_x != b_x) fun (t_13 : Bool) =>
  iteK t_13
  (some false)
  (letK (a_b != b_b) fun (t_19 : Bool) =>
  iteK t_19
  (some false)
  (letK (a_y != b_y) fun (t_25 : Bool) =>
  iteK t_25
  (some false)
  (some true))))

set_option maxRecDepth 100000 in
set_option maxHeartbeats 2000000 in
theorem C (a : Go.Proofs.Ytekacbjnpeglhaa.PBan.Ban) (b : Go.Proofs.Ytekacbjnpeglhaa.PBan.Ban)   (w : World)   {r : Bool} (H : Hid (P a b = some r)) :
    Calls Try.prog 92 #[a.val, b.val] w (Gives (.bool r) w) := by
  have HB := Lib.hid (Below.refl w.heap.size w)
  unfold P at H
  obtain ⟨a_a, a_x, a_b, a_y⟩ := a
  replace H := unBan_hid H
  obtain ⟨b_a, b_x, b_b, b_y⟩ := b
  replace H := unBan_hid H
  unfold Go.Proofs.Ytekacbjnpeglhaa.PBan.Ban.val
  go_enter Try.func92, Try.ntmps92
  obtain ⟨w_a_0, hw_a_0⟩ : ∃ x, w.alloc (.cells #[.int .i64 a_a, .int .i64 a_x, .int .i64 a_b, .int .i64 a_y] 57) = x := ⟨_, rfl⟩
  have bw_a_0 : Below w.heap.size w w_a_0 := by rw [← hw_a_0]; exact (Below.refl _ _).alloc (Nat.le_refl _) _
  have HBw_a_0 := Lib.hid (Below.step HB.out bw_a_0)
  clear bw_a_0
  have ka_0_0 : w_a_0.cell? ⟨w.heap.size, 0, none⟩ = some (.int .i64 a_a) := by rw [← hw_a_0]; exact box_new _ _ _ 0 _ rfl
  have ka_0_1 : w_a_0.cell? ⟨w.heap.size, 1, none⟩ = some (.int .i64 a_x) := by rw [← hw_a_0]; exact box_new _ _ _ 1 _ rfl
  have ka_0_2 : w_a_0.cell? ⟨w.heap.size, 2, none⟩ = some (.int .i64 a_b) := by rw [← hw_a_0]; exact box_new _ _ _ 2 _ rfl
  have ka_0_3 : w_a_0.cell? ⟨w.heap.size, 3, none⟩ = some (.int .i64 a_y) := by rw [← hw_a_0]; exact box_new _ _ _ 3 _ rfl
  obtain ⟨w_b_1, hw_b_1⟩ : ∃ x, w_a_0.alloc (.cells #[.int .i64 b_a, .int .i64 b_x, .int .i64 b_b, .int .i64 b_y] 57) = x := ⟨_, rfl⟩
  have bw_b_1 : Below w_a_0.heap.size w_a_0 w_b_1 := by rw [← hw_b_1]; exact (Below.refl _ _).alloc (Nat.le_refl _) _
  have HBw_b_1 := Lib.hid (Below.step HBw_a_0.out bw_b_1)
  have ka_0_0__164 := cell_below bw_b_1 ka_0_0
  have ka_0_1__165 := cell_below bw_b_1 ka_0_1
  have ka_0_2__166 := cell_below bw_b_1 ka_0_2
  have ka_0_3__167 := cell_below bw_b_1 ka_0_3
  clear bw_b_1
  have kb_1_0 : w_b_1.cell? ⟨w_a_0.heap.size, 0, none⟩ = some (.int .i64 b_a) := by rw [← hw_b_1]; exact box_new _ _ _ 0 _ rfl
  have kb_1_1 : w_b_1.cell? ⟨w_a_0.heap.size, 1, none⟩ = some (.int .i64 b_x) := by rw [← hw_b_1]; exact box_new _ _ _ 1 _ rfl
  have kb_1_2 : w_b_1.cell? ⟨w_a_0.heap.size, 2, none⟩ = some (.int .i64 b_b) := by rw [← hw_b_1]; exact box_new _ _ _ 2 _ rfl
  have kb_1_3 : w_b_1.cell? ⟨w_a_0.heap.size, 3, none⟩ = some (.int .i64 b_y) := by rw [← hw_b_1]; exact box_new _ _ _ 3 _ rfl
  replace H := let_hid H
  obtain ⟨t_7, ht_7, H⟩ := H
  cases t_7 with
  | false =>
    replace H := ite_f H
    replace H := let_hid H
    obtain ⟨t_13, ht_13, H⟩ := H
    cases t_13 with
    | false =>
      replace H := ite_f H
      replace H := let_hid H
      obtain ⟨t_19, ht_19, H⟩ := H
      cases t_19 with
      | false =>
        replace H := ite_f H
        replace H := let_hid H
        obtain ⟨t_25, ht_25, H⟩ := H
        cases t_25 with
        | false =>
          replace H := ite_f H
          obtain rfl := ret_hid H
          go_wp2_with fail
          go_ret
          exact ⟨rfl, HBw_b_1.out⟩
        | true =>
          replace H := ite_t H
          obtain rfl := ret_hid H
          go_wp2_with fail
          go_ret
          exact ⟨rfl, HBw_b_1.out⟩
      | true =>
        replace H := ite_t H
        obtain rfl := ret_hid H
        go_wp2_with fail
        go_ret
        exact ⟨rfl, HBw_b_1.out⟩
    | true =>
      replace H := ite_t H
      obtain rfl := ret_hid H
      go_wp2_with fail
      go_ret
      exact ⟨rfl, HBw_b_1.out⟩
  | true =>
    replace H := ite_t H
    obtain rfl := ret_hid H
    go_wp2_with fail
    go_ret
    exact ⟨rfl, HBw_b_1.out⟩
end Go.Proofs.Ytekacbjnpeglhaa.GlEqBan

/- loop.example/g01062/laws.eqBanS as a plain function, and the contract of the program's: where the plain one has an answer, the program has it. Conditions: slices read as lists. -/
namespace Go.Proofs.Ytekacbjnpeglhaa.GlEqBanS
set_option linter.unusedVariables false
set_option linter.unusedSimpArgs false
open Go.RowKit
open Go.Proofs.Ytekacbjnpeglhaa.Rowed Go.Proofs.Ytekacbjnpeglhaa.Turn Go.Proofs.Ytekacbjnpeglhaa.Aid Go.Proofs.Ytekacbjnpeglhaa.GoP Go.Proofs.Ytekacbjnpeglhaa.GoM

def l0 (a : (List Go.Proofs.Ytekacbjnpeglhaa.PBan.Ban)) (b : (List Go.Proofs.Ytekacbjnpeglhaa.PBan.Ban)) (k0 : Nat) (s : Unit) (nx0 bk0 : Unit → Option (Bool)) : Option (Bool) :=
  
  Option.bind (idx a (k0 : Int)) fun (yt_14 : Go.Proofs.Ytekacbjnpeglhaa.PBan.Ban) =>
  unBan yt_14 fun (t_14_a : Int) (t_14_x : Int) (t_14_b : Int) (t_14_y : Int) =>
  Option.bind (idx b (k0 : Int)) fun (yt_18 : Go.Proofs.Ytekacbjnpeglhaa.PBan.Ban) =>
  unBan yt_18 fun (t_18_a : Int) (t_18_x : Int) (t_18_b : Int) (t_18_y : Int) =>
  Option.bind (Go.Proofs.Ytekacbjnpeglhaa.GlEqBan.P (Go.Proofs.Ytekacbjnpeglhaa.PBan.Ban.mk t_14_a t_14_x t_14_b t_14_y) (Go.Proofs.Ytekacbjnpeglhaa.PBan.Ban.mk t_18_a t_18_x t_18_b t_18_y)) fun (t_20 : Bool) =>
  letK (!t_20) fun (t_21 : Bool) =>
  iteK t_21
  (some false)
  (appK nx0 ())

def e0  (s : Unit) : Option (Bool) :=
  
  some true

def P (a : (List Go.Proofs.Ytekacbjnpeglhaa.PBan.Ban)) (b : (List Go.Proofs.Ytekacbjnpeglhaa.PBan.Ban)) : Option (Bool) :=
  letK ((a.length : Int) != (b.length : Int)) fun (t_5 : Bool) =>
  iteK t_5
  (some false)
  (cntK (l0 a b) (a.length) 0 () (e0 ))

set_option maxRecDepth 100000 in
set_option maxHeartbeats 2000000 in
theorem C (a : (List Go.Proofs.Ytekacbjnpeglhaa.PBan.Ban)) (b : (List Go.Proofs.Ytekacbjnpeglhaa.PBan.Ban)) (A0 : Option Addr) (c0 : Nat) (A1 : Option Addr) (c1 : Nat)  (w : World) (M0 : Hid (Cells w 4 A0 a.length (Go.Proofs.Ytekacbjnpeglhaa.PBan.flat a))) (N0 : Hid (a.length ≤ 9223372036854775807)) (M1 : Hid (Cells w 4 A1 b.length (Go.Proofs.Ytekacbjnpeglhaa.PBan.flat b))) (N1 : Hid (b.length ≤ 9223372036854775807))  {r : Bool} (H : Hid (P a b = some r)) :
    Calls Try.prog 58 #[.slice A0 a.length c0, .slice A1 b.length c1] w (Gives (.bool r) w) := by
  have HB := Lib.hid (Below.refl w.heap.size w)
  unfold P at H
  have N0o := N0.out
  have N1o := N1.out
  go_enter Try.func58, Try.ntmps58
  replace H := let_hid H
  obtain ⟨t_5, ht_5, H⟩ := H
  cases t_5 with
  | false =>
    have Hht_5 : Hid (a.length = b.length) := Lib.hid (by have := bne_eq_false_iff_eq.1 ht_5; omega)
    have nht_5 : (a.length == b.length) = true := beq_iff_eq.2 Hht_5.out
    replace H := ite_f H
    go_wp2_with fail
    go_loopg [5] (a.length) (fun m_ v5_ wr => ∃ (k0 : Nat) , k0 + m_ = a.length ∧ v5_ = .int .i64 (k0 : Int) ∧ Hid (cntK (l0 a b) m_ k0 () (e0 ) = some r) ∧ Hid (Below w.heap.size w wr))
    case atStart => exact ⟨0, by omega, rfl, H, HB⟩
    case round =>
      obtain ⟨k0, hkm0, rfl, H, HBwr0⟩ := hrel
      rename World => wr0
      cases gk with
      | zero =>
        obtain rfl : k0 = a.length := by omega
        have hc0 : decide (((a.length : Nat) : Int) < ((a.length : Nat) : Int)) = false := by simp
        replace H := cnt_zero H
        unfold e0 at H
        obtain rfl := ret_hid H
        go_wp2_with fail
        go_ret
        exact ⟨rfl, HBwr0.out⟩
      | succ m0 =>
        have hlt0 : k0 < a.length := by omega
        have hc0 : decide ((k0 : Int) < ((a.length : Nat) : Int)) = true := by simp; omega
        replace H := cnt_succ H
        unfold l0 at H
        go_wp2_with fail
        replace H := idx_hid H
        obtain ⟨nt_14, yt_14, et_14, lt_14, gt_14, H⟩ := H
        obtain rfl : k0 = nt_14 := by omega
        clear et_14
        obtain ⟨t_14_a, t_14_x, t_14_b, t_14_y⟩ := yt_14
        replace H := unBan_hid H
        obtain ⟨ab_t_14, ao_t_14, zt_14, At_14, z_t_14, ct_14_0, ct_14_1, ct_14_2, ct_14_3⟩ := Go.Proofs.Ytekacbjnpeglhaa.OBan.at_ M0.out lt_14
        obtain rfl := Option.some.inj (gt_14.out.symm.trans z_t_14)
        subst At_14
        have ltt_14 := cell_lt ct_14_0
        replace ct_14_0 := cell_below HBwr0.out ct_14_0
        replace ct_14_1 := cell_below HBwr0.out ct_14_1
        replace ct_14_2 := cell_below HBwr0.out ct_14_2
        replace ct_14_3 := cell_below HBwr0.out ct_14_3
        clear z_t_14
        have b0t_14 : (0 : Int) ≤ (k0 : Int) := by omega
        have b1t_14 : (k0 : Int) < ((a.length : Nat) : Int) := by omega
        have b2t_14 : ((k0 : Int)).toNat = k0 := by omega
        have Hct_14_0 := Lib.hid ct_14_0
        replace ct_14_0 := cell_regrown ct_14_0
        have Hct_14_1 := Lib.hid ct_14_1
        replace ct_14_1 := cell_regrown ct_14_1
        have Hct_14_2 := Lib.hid ct_14_2
        replace ct_14_2 := cell_regrown ct_14_2
        have Hct_14_3 := Lib.hid ct_14_3
        replace ct_14_3 := cell_regrown ct_14_3
        replace H := idx_hid H
        obtain ⟨nt_18, yt_18, et_18, lt_18, gt_18, H⟩ := H
        obtain rfl : k0 = nt_18 := by omega
        clear et_18
        obtain ⟨t_18_a, t_18_x, t_18_b, t_18_y⟩ := yt_18
        replace H := unBan_hid H
        obtain ⟨ab_t_18, ao_t_18, zt_18, At_18, z_t_18, ct_18_0, ct_18_1, ct_18_2, ct_18_3⟩ := Go.Proofs.Ytekacbjnpeglhaa.OBan.at_ M1.out lt_18
        obtain rfl := Option.some.inj (gt_18.out.symm.trans z_t_18)
        subst At_18
        have ltt_18 := cell_lt ct_18_0
        replace ct_18_0 := cell_below HBwr0.out ct_18_0
        replace ct_18_1 := cell_below HBwr0.out ct_18_1
        replace ct_18_2 := cell_below HBwr0.out ct_18_2
        replace ct_18_3 := cell_below HBwr0.out ct_18_3
        clear z_t_18
        have b0t_18 : (0 : Int) ≤ (k0 : Int) := by omega
        have b1t_18 : (k0 : Int) < ((b.length : Nat) : Int) := by omega
        have b2t_18 : ((k0 : Int)).toNat = k0 := by omega
        have Hct_18_0 := Lib.hid ct_18_0
        replace ct_18_0 := cell_regrown ct_18_0
        have Hct_18_1 := Lib.hid ct_18_1
        replace ct_18_1 := cell_regrown ct_18_1
        have Hct_18_2 := Lib.hid ct_18_2
        replace ct_18_2 := cell_regrown ct_18_2
        have Hct_18_3 := Lib.hid ct_18_3
        replace ct_18_3 := cell_regrown ct_18_3
        replace H := bind_hid H
        obtain ⟨t_20, qt_20, H⟩ := H
        have nt_20 : ∀ d os, Calls Try.prog 92 #[.agg #[.int .i64 t_14_a, .int .i64 t_14_x, .int .i64 t_14_b, .int .i64 t_14_y], .agg #[.int .i64 t_18_a, .int .i64 t_18_x, .int .i64 t_18_b, .int .i64 t_18_y]] (Go.Sort.grow (redrawn wr0 d) os) fun e w'' => e = .returned (.bool t_20) ∧ ∃ p : Regrown, w'' = Go.Sort.grow (redrawn wr0 p.d) p.os := fun d os => Calls.regrown_of (Go.Proofs.Ytekacbjnpeglhaa.GlEqBan.C ((Go.Proofs.Ytekacbjnpeglhaa.PBan.Ban.mk t_14_a t_14_x t_14_b t_14_y)) ((Go.Proofs.Ytekacbjnpeglhaa.PBan.Ban.mk t_18_a t_18_x t_18_b t_18_y))  _    qt_20)
        cases t_20 with
        | false =>
          replace H := let_hid H
          obtain ⟨t_21, ht_21, H⟩ := H
          obtain rfl : t_21 = true := ht_21.symm
          refine wp_region_quiet_below (by kernel_rfl) (by kernel_rfl) ?_
          repeat (go_big_quiet_step (first | (go_at_call 92; exact nt_20 _ _)))
          refine wpQuiet_nil ?_
          intro Y6 hY6
          replace hY6 := below_class hY6
          clear nt_20
          replace ct_14_0 := Hct_14_0.out
          clear Hct_14_0
          replace ct_14_1 := Hct_14_1.out
          clear Hct_14_1
          replace ct_14_2 := Hct_14_2.out
          clear Hct_14_2
          replace ct_14_3 := Hct_14_3.out
          clear Hct_14_3
          replace ct_18_0 := Hct_18_0.out
          clear Hct_18_0
          replace ct_18_1 := Hct_18_1.out
          clear Hct_18_1
          replace ct_18_2 := Hct_18_2.out
          clear Hct_18_2
          replace ct_18_3 := Hct_18_3.out
          clear Hct_18_3
          have HBY6 := Lib.hid (Below.step HBwr0.out hY6)
          replace ct_14_0 := cell_below hY6 ct_14_0
          replace ct_14_1 := cell_below hY6 ct_14_1
          replace ct_14_2 := cell_below hY6 ct_14_2
          replace ct_14_3 := cell_below hY6 ct_14_3
          replace ct_18_0 := cell_below hY6 ct_18_0
          replace ct_18_1 := cell_below hY6 ct_18_1
          replace ct_18_2 := cell_below hY6 ct_18_2
          replace ct_18_3 := cell_below hY6 ct_18_3
          clear hY6
          replace H := ite_t H
          obtain rfl := ret_hid H
          go_wp2_with fail
          go_ret
          exact ⟨rfl, HBY6.out⟩
        | true =>
          replace H := let_hid H
          obtain ⟨t_21, ht_21, H⟩ := H
          obtain rfl : t_21 = false := ht_21.symm
          refine wp_region_quiet_below (by kernel_rfl) (by kernel_rfl) ?_
          repeat (go_big_quiet_step (first | (go_at_call 92; exact nt_20 _ _)))
          refine wpQuiet_nil ?_
          intro Y6 hY6
          replace hY6 := below_class hY6
          clear nt_20
          replace ct_14_0 := Hct_14_0.out
          clear Hct_14_0
          replace ct_14_1 := Hct_14_1.out
          clear Hct_14_1
          replace ct_14_2 := Hct_14_2.out
          clear Hct_14_2
          replace ct_14_3 := Hct_14_3.out
          clear Hct_14_3
          replace ct_18_0 := Hct_18_0.out
          clear Hct_18_0
          replace ct_18_1 := Hct_18_1.out
          clear Hct_18_1
          replace ct_18_2 := Hct_18_2.out
          clear Hct_18_2
          replace ct_18_3 := Hct_18_3.out
          clear Hct_18_3
          have HBY6 := Lib.hid (Below.step HBwr0.out hY6)
          replace ct_14_0 := cell_below hY6 ct_14_0
          replace ct_14_1 := cell_below hY6 ct_14_1
          replace ct_14_2 := cell_below hY6 ct_14_2
          replace ct_14_3 := cell_below hY6 ct_14_3
          replace ct_18_0 := cell_below hY6 ct_18_0
          replace ct_18_1 := cell_below hY6 ct_18_1
          replace ct_18_2 := cell_below hY6 ct_18_2
          replace ct_18_3 := cell_below hY6 ct_18_3
          clear hY6
          replace H := ite_f H
          replace H := app_hid H
          go_wp2_with fail
          go_roundg m0
          case measure => omega
          case rel => exact ⟨k0 + 1, by omega, by go_num, H, HBY6⟩
  | true =>
    have nht_5 : ¬ (a.length = b.length) := by have := bne_iff_ne.1 ht_5; omega
    replace H := ite_t H
    obtain rfl := ret_hid H
    go_wp2_with fail
    go_ret
    exact ⟨rfl, HB.out⟩
end Go.Proofs.Ytekacbjnpeglhaa.GlEqBanS

/- loop.example/g01062/laws.eqKindTable as a plain function, and the contract of the program's: where the plain one has an answer, the program has it. Conditions: slices read as lists. -/
namespace Go.Proofs.Ytekacbjnpeglhaa.GlEqKindTable
set_option linter.unusedVariables false
set_option linter.unusedSimpArgs false
open Go.RowKit
open Go.Proofs.Ytekacbjnpeglhaa.Rowed Go.Proofs.Ytekacbjnpeglhaa.Turn Go.Proofs.Ytekacbjnpeglhaa.Aid Go.Proofs.Ytekacbjnpeglhaa.GoP Go.Proofs.Ytekacbjnpeglhaa.GoM

def P (a_sizes : (List Int)) (a_bans : (List Go.Proofs.Ytekacbjnpeglhaa.PBan.Ban)) (b_sizes : (List Int)) (b_bans : (List Go.Proofs.Ytekacbjnpeglhaa.PBan.Ban)) : Option (Bool) :=
  Option.bind (Go.Proofs.Ytekacbjnpeglhaa.GlEqIntS.P a_sizes b_sizes) fun (t_7 : Bool) =>
  letK (!t_7) fun (t_8 : Bool) =>
  iteK t_8
  (some false)
  (Option.bind (Go.Proofs.Ytekacbjnpeglhaa.GlEqBanS.P a_bans b_bans) fun (t_14 : Bool) =>
  letK (!t_14) fun (t_15 : Bool) =>
  iteK t_15
  (some false)
  (some true))

set_option maxRecDepth 100000 in
set_option maxHeartbeats 2000000 in
theorem C (a_sizes : (List Int)) (a_bans : (List Go.Proofs.Ytekacbjnpeglhaa.PBan.Ban)) (b_sizes : (List Int)) (b_bans : (List Go.Proofs.Ytekacbjnpeglhaa.PBan.Ban)) (A0_0 : Option Addr) (c0_0 : Nat) (A0_1 : Option Addr) (c0_1 : Nat) (A1_0 : Option Addr) (c1_0 : Nat) (A1_1 : Option Addr) (c1_1 : Nat)  (w : World) (M0_0 : Hid (Cells w 1 A0_0 a_sizes.length (Go.Proofs.Ytekacbjnpeglhaa.HelpInt.iv a_sizes))) (N0_0 : Hid (a_sizes.length ≤ 9223372036854775807)) (M0_1 : Hid (Cells w 4 A0_1 a_bans.length (Go.Proofs.Ytekacbjnpeglhaa.PBan.flat a_bans))) (N0_1 : Hid (a_bans.length ≤ 9223372036854775807)) (M1_0 : Hid (Cells w 1 A1_0 b_sizes.length (Go.Proofs.Ytekacbjnpeglhaa.HelpInt.iv b_sizes))) (N1_0 : Hid (b_sizes.length ≤ 9223372036854775807)) (M1_1 : Hid (Cells w 4 A1_1 b_bans.length (Go.Proofs.Ytekacbjnpeglhaa.PBan.flat b_bans))) (N1_1 : Hid (b_bans.length ≤ 9223372036854775807))  {r : Bool} (H : Hid (P a_sizes a_bans b_sizes b_bans = some r)) :
    Calls Try.prog 17 #[.agg #[.slice A0_0 a_sizes.length c0_0, .slice A0_1 a_bans.length c0_1], .agg #[.slice A1_0 b_sizes.length c1_0, .slice A1_1 b_bans.length c1_1]] w (Gives (.bool r) w) := by
  have HB := Lib.hid (Below.refl w.heap.size w)
  unfold P at H
  have N0_0o := N0_0.out
  have N0_1o := N0_1.out
  have N1_0o := N1_0.out
  have N1_1o := N1_1.out
  go_enter Try.func17, Try.ntmps17
  obtain ⟨w_a_0, hw_a_0⟩ : ∃ x, w.alloc (.cells #[.slice A0_0 a_sizes.length c0_0, .slice A0_1 a_bans.length c0_1] 30) = x := ⟨_, rfl⟩
  have bw_a_0 : Below w.heap.size w w_a_0 := by rw [← hw_a_0]; exact (Below.refl _ _).alloc (Nat.le_refl _) _
  have HBw_a_0 := Lib.hid (Below.step HB.out bw_a_0)
  clear bw_a_0
  have ka_0_0 : w_a_0.cell? ⟨w.heap.size, 0, none⟩ = some (.slice A0_0 a_sizes.length c0_0) := by rw [← hw_a_0]; exact box_new _ _ _ 0 _ rfl
  have ka_0_1 : w_a_0.cell? ⟨w.heap.size, 1, none⟩ = some (.slice A0_1 a_bans.length c0_1) := by rw [← hw_a_0]; exact box_new _ _ _ 1 _ rfl
  obtain ⟨w_b_1, hw_b_1⟩ : ∃ x, w_a_0.alloc (.cells #[.slice A1_0 b_sizes.length c1_0, .slice A1_1 b_bans.length c1_1] 30) = x := ⟨_, rfl⟩
  have bw_b_1 : Below w_a_0.heap.size w_a_0 w_b_1 := by rw [← hw_b_1]; exact (Below.refl _ _).alloc (Nat.le_refl _) _
  have HBw_b_1 := Lib.hid (Below.step HBw_a_0.out bw_b_1)
  have ka_0_0__168 := cell_below bw_b_1 ka_0_0
  have ka_0_1__169 := cell_below bw_b_1 ka_0_1
  clear bw_b_1
  have kb_1_0 : w_b_1.cell? ⟨w_a_0.heap.size, 0, none⟩ = some (.slice A1_0 b_sizes.length c1_0) := by rw [← hw_b_1]; exact box_new _ _ _ 0 _ rfl
  have kb_1_1 : w_b_1.cell? ⟨w_a_0.heap.size, 1, none⟩ = some (.slice A1_1 b_bans.length c1_1) := by rw [← hw_b_1]; exact box_new _ _ _ 1 _ rfl
  replace H := bind_hid H
  obtain ⟨t_7, qt_7, H⟩ := H
  go_wp2_with fail
  clear ka_0_0 ka_0_1
  go_at_call 21
  refine (Go.Proofs.Ytekacbjnpeglhaa.GlEqIntS.C (a_sizes) (b_sizes) A0_0 c0_0 A1_0 c1_0 _   (Lib.hid (Cells.below M0_0.out HBw_b_1.out)) N0_0 (Lib.hid (Cells.below M1_0.out HBw_b_1.out)) N1_0 qt_7).mono ?_
  rintro e_t_7 wt_7 ⟨rfl, bt_7⟩
  have HBwt_7 := Lib.hid (Below.step HBw_b_1.out bt_7)
  replace ka_0_0__168 := cell_below bt_7 ka_0_0__168
  replace ka_0_1__169 := cell_below bt_7 ka_0_1__169
  replace kb_1_0 := cell_below bt_7 kb_1_0
  replace kb_1_1 := cell_below bt_7 kb_1_1
  clear bt_7
  cases t_7 with
  | false =>
    replace H := let_hid H
    obtain ⟨t_8, ht_8, H⟩ := H
    obtain rfl : t_8 = true := ht_8.symm
    replace H := ite_t H
    obtain rfl := ret_hid H
    go_wp2_with fail
    go_ret
    exact ⟨rfl, HBwt_7.out⟩
  | true =>
    replace H := let_hid H
    obtain ⟨t_8, ht_8, H⟩ := H
    obtain rfl : t_8 = false := ht_8.symm
    replace H := ite_f H
    replace H := bind_hid H
    obtain ⟨t_14, qt_14, H⟩ := H
    go_wp2_with fail
    go_at_call 58
    refine (Go.Proofs.Ytekacbjnpeglhaa.GlEqBanS.C (a_bans) (b_bans) A0_1 c0_1 A1_1 c1_1 _   (Lib.hid (Cells.below M0_1.out HBwt_7.out)) N0_1 (Lib.hid (Cells.below M1_1.out HBwt_7.out)) N1_1 qt_14).mono ?_
    rintro e_t_14 wt_14 ⟨rfl, bt_14⟩
    have HBwt_14 := Lib.hid (Below.step HBwt_7.out bt_14)
    replace ka_0_0__168 := cell_below bt_14 ka_0_0__168
    replace ka_0_1__169 := cell_below bt_14 ka_0_1__169
    replace kb_1_0 := cell_below bt_14 kb_1_0
    replace kb_1_1 := cell_below bt_14 kb_1_1
    clear bt_14
    cases t_14 with
    | false =>
      replace H := let_hid H
      obtain ⟨t_15, ht_15, H⟩ := H
      obtain rfl : t_15 = true := ht_15.symm
      replace H := ite_t H
      obtain rfl := ret_hid H
      go_wp2_with fail
      go_ret
      exact ⟨rfl, HBwt_14.out⟩
    | true =>
      replace H := let_hid H
      obtain ⟨t_15, ht_15, H⟩ := H
      obtain rfl : t_15 = false := ht_15.symm
      replace H := ite_f H
      obtain rfl := ret_hid H
      go_wp2_with fail
      go_ret
      exact ⟨rfl, HBwt_14.out⟩
end Go.Proofs.Ytekacbjnpeglhaa.GlEqKindTable

/- loop.example/g01062/laws.markIntS as a plain function, and the contract of the program's: where the plain one has an answer, the program has it. Conditions: slices read as lists. -/
namespace Go.Proofs.Ytekacbjnpeglhaa.GlMarkIntS
set_option linter.unusedVariables false
set_option linter.unusedSimpArgs false
open Go.RowKit
open Go.Proofs.Ytekacbjnpeglhaa.Rowed Go.Proofs.Ytekacbjnpeglhaa.Turn Go.Proofs.Ytekacbjnpeglhaa.Aid Go.Proofs.Ytekacbjnpeglhaa.GoP Go.Proofs.Ytekacbjnpeglhaa.GoM

def l0  (k0 : Nat) (s : (List Int) × Int) (nx0 bk0 : (List Int) × Int → Option (Int × (List Int))) : Option (Int × (List Int)) :=
  unp2 s fun a_0l0 k_1l0 =>
  Option.bind (idx a_0l0 (k0 : Int)) fun (yt_9 : Int) =>
  letK (a_0l0.set k0 k_1l0) fun (l10_10 : (List Int)) =>
  letK (IntKind.i64.wrap (k_1l0 + 1)) fun (t_12 : Int) =>
  appK nx0 (l10_10, t_12)

def e0  (s : (List Int) × Int) : Option (Int × (List Int)) :=
  unp2 s fun a_0l0 k_1l0 =>
  some (k_1l0, a_0l0)

def P (a : (List Int)) (k_1 : Int) : Option (Int × (List Int)) :=
  cntK (l0 ) (a.length) 0 (a, k_1) (e0 )

set_option maxRecDepth 100000 in
set_option maxHeartbeats 2000000 in
theorem C (a : (List Int)) (k_1 : Int) (A0 : Option Addr) (c0 : Nat)  (b0 : Nat) (w : World) (M0 : Hid (w.ownsRow b0 3 1 (.slice A0 a.length c0) a.length (Go.Proofs.Ytekacbjnpeglhaa.HelpInt.iv a))) (N0 : Hid (a.length ≤ 9223372036854775807))  {r : Int} {l_ : (List Int)} (H : Hid (P a k_1 = some (r, l_))) :
    Calls Try.prog 27 #[.slice A0 a.length c0, .int .i64 k_1] w (fun e w' => e = .returned (.int .i64 r) ∧ w'.ownsRow b0 3 1 (.slice A0 a.length c0) a.length (Go.Proofs.Ytekacbjnpeglhaa.HelpInt.iv l_) ∧ l_.length = a.length ∧ w.grownBy w' (Value.slice A0 a.length c0).ownBlock) := by
  have HB := Lib.hid (Aid.grown_refl w (Value.slice A0 a.length c0).ownBlock)
  unfold P at H
  have N0o := N0.out
  go_enter Try.func27, Try.ntmps27
  go_wp2_with fail
  have hb_0 : a.length ≤ 9223372036854775807 := own_max M0.out
  go_wp2_with fail
  go_loopg [5, 1] (a.length) (fun m_ v5_ v1_ wr => ∃ (k0 : Nat) (a_0l0 : (List Int)) (k_1l0 : Int), k0 + m_ = a.length ∧ v5_ = .int .i64 (k0 : Int) ∧ v1_ = .int .i64 k_1l0 ∧ Hid (cntK (l0 ) m_ k0 (a_0l0, k_1l0) (e0 ) = some (r, l_)) ∧ Hid (w.grownBy wr (Value.slice A0 a.length c0).ownBlock) ∧ Hid (wr.ownsRow b0 3 1 (.slice A0 a.length c0) a.length (Go.Proofs.Ytekacbjnpeglhaa.HelpInt.iv a_0l0)) ∧ Hid (a_0l0.length = a.length))
  case atStart => exact ⟨0, _, _, by omega, rfl, rfl, H, HB, M0, Lib.hid (rfl)⟩
  case round =>
    obtain ⟨k0, a_0l0, k_1l0, hkm0, rfl, rfl, H, HBwr0, Oa_0l0, hna_0l0⟩ := hrel
    rename World => wr0
    cases gk with
    | zero =>
      obtain rfl : k0 = a.length := by omega
      have hc0 : decide (((a.length : Nat) : Int) < ((a.length : Nat) : Int)) = false := by simp
      replace H := cnt_zero H
      unfold e0 at H
      replace H := unp2_hid H
      cases ret_hid H
      go_wp2_with fail
      go_ret
      exact ⟨rfl, Oa_0l0.out, hna_0l0.out, HBwr0.out⟩
    | succ m0 =>
      have hlt0 : k0 < a.length := by omega
      have hc0 : decide ((k0 : Int) < ((a.length : Nat) : Int)) = true := by simp; omega
      replace H := cnt_succ H
      unfold l0 at H
      replace H := unp2_hid H
      replace H := idx_hid H
      obtain ⟨nt_9, yt_9, et_9, lt_9, gt_9, H⟩ := H
      obtain rfl : k0 = nt_9 := by omega
      clear et_9
      have hqt_9 := hna_0l0.out
      obtain ⟨qt_9, Qt_9⟩ := own_some Oa_0l0.out (by omega)
      subst Qt_9
      obtain ⟨ab_t_9, ao_t_9, zt_9, At_9, z_t_9, ct_9_0⟩ := Go.Proofs.Ytekacbjnpeglhaa.HelpInt.Ints.at_ (own_cells Oa_0l0.out) (k := k0) (by omega)
      obtain rfl := Option.some.inj (gt_9.out.symm.trans z_t_9)
      simp only [Option.some.injEq, Addr.mk.injEq] at At_9
      obtain ⟨rfl, rfl, _⟩ := At_9
      clear z_t_9
      simp only [Nat.zero_add] at ct_9_0
      have b0t_9 : (0 : Int) ≤ (k0 : Int) := by omega
      have b1t_9 : (k0 : Int) < ((a.length : Nat) : Int) := by omega
      have b2t_9 : ((k0 : Int)).toNat = k0 := by omega
      clear hqt_9
      replace H := let_hid H
      obtain ⟨l10_10, hl10_10, H⟩ := H
      obtain ⟨wl10_10, hwl10_10⟩ : ∃ x, (wr0).setCell ⟨qt_9, k0, none⟩ (.int .i64 k_1l0) = x := ⟨_, rfl⟩
      have z0l10_10 := Oa_0l0.out.frozenAt (k0)
      have Sl10_10 := Lib.hid (own_stores [(k0, .int .i64 k_1l0)] Oa_0l0.out)
      have nl10_10 : Hid (l10_10.length = a.length) := Lib.hid (by rw [← hl10_10, List.length_set]; exact hna_0l0.out)
      have Pl10_10 : Hid (wl10_10.ownsRow b0 3 1 (.slice (some ⟨qt_9, 0, none⟩) a.length c0) a.length (Go.Proofs.Ytekacbjnpeglhaa.HelpInt.iv l10_10)) := Lib.hid (by have e_ : ([(k0, .int .i64 k_1l0)] : List (Nat × Value)).foldl (fun xs p => xs.set p.1 p.2) (Go.Proofs.Ytekacbjnpeglhaa.HelpInt.iv a_0l0) = (Go.Proofs.Ytekacbjnpeglhaa.HelpInt.iv l10_10) := (by rw [← hl10_10]; first | done | simp [Go.Proofs.Ytekacbjnpeglhaa.HelpInt.iv, List.map_set]); rw [← hwl10_10, ← e_]; exact Sl10_10.out.1)
      have Gl10_10 : Hid (wr0.grownBy wl10_10 (Value.slice (some ⟨qt_9, 0, none⟩) a.length c0).ownBlock) := Lib.hid (by rw [← hwl10_10]; exact Sl10_10.out.2)
      have HBwl10_10 := Lib.hid (Aid.grown_tr HBwr0.out Gl10_10.out)
      have hhl10_10 := Lib.hid hl10_10
      clear hl10_10 Sl10_10
      clear Oa_0l0 Gl10_10
      replace H := let_hid H
      obtain ⟨t_12, ht_12, H⟩ := H
      replace H := app_hid H
      go_wp2_with fail
      clear z0l10_10 ct_9_0
      go_roundg m0
      case measure => omega
      case rel => exact ⟨k0 + 1, _, _, by omega, by go_num, rfl, H, HBwl10_10, Pl10_10, Lib.hid (nl10_10.out)⟩
end Go.Proofs.Ytekacbjnpeglhaa.GlMarkIntS

/- loop.example/g01062/laws.markBanS as a plain function, and the contract of the program's: where the plain one has an answer, the program has it. Conditions: slices read as lists. -/
namespace Go.Proofs.Ytekacbjnpeglhaa.GlMarkBanS
set_option linter.unusedVariables false
set_option linter.unusedSimpArgs false
open Go.RowKit
open Go.Proofs.Ytekacbjnpeglhaa.Rowed Go.Proofs.Ytekacbjnpeglhaa.Turn Go.Proofs.Ytekacbjnpeglhaa.Aid Go.Proofs.Ytekacbjnpeglhaa.GoP Go.Proofs.Ytekacbjnpeglhaa.GoM

def l0  (k0 : Nat) (s : (List Go.Proofs.Ytekacbjnpeglhaa.PBan.Ban) × Int) (nx0 bk0 : (List Go.Proofs.Ytekacbjnpeglhaa.PBan.Ban) × Int → Option (Int × (List Go.Proofs.Ytekacbjnpeglhaa.PBan.Ban))) : Option (Int × (List Go.Proofs.Ytekacbjnpeglhaa.PBan.Ban)) :=
  unp2 s fun a_0l0 k_1l0 =>
  Option.bind (idx a_0l0 (k0 : Int)) fun (yt_9 : Go.Proofs.Ytekacbjnpeglhaa.PBan.Ban) =>
  unBan yt_9 fun (t_9_a : Int) (t_9_x : Int) (t_9_b : Int) (t_9_y : Int) =>
  letK (a_0l0.set k0 (Go.Proofs.Ytekacbjnpeglhaa.PBan.Ban.mk k_1l0 t_9_x t_9_b t_9_y)) fun (l11_11 : (List Go.Proofs.Ytekacbjnpeglhaa.PBan.Ban)) =>
  letK (IntKind.i64.wrap (k_1l0 + 1)) fun (t_13 : Int) =>
  Option.bind (idx l11_11 (k0 : Int)) fun (yt_18 : Go.Proofs.Ytekacbjnpeglhaa.PBan.Ban) =>
  unBan yt_18 fun (t_18_a : Int) (t_18_x : Int) (t_18_b : Int) (t_18_y : Int) =>
  letK (l11_11.set k0 (Go.Proofs.Ytekacbjnpeglhaa.PBan.Ban.mk t_18_a t_13 t_18_b t_18_y)) fun (l20_20 : (List Go.Proofs.Ytekacbjnpeglhaa.PBan.Ban)) =>
  letK (IntKind.i64.wrap (t_13 + 1)) fun (t_22 : Int) =>
  Option.bind (idx l20_20 (k0 : Int)) fun (yt_27 : Go.Proofs.Ytekacbjnpeglhaa.PBan.Ban) =>
  unBan yt_27 fun (t_27_a : Int) (t_27_x : Int) (t_27_b : Int) (t_27_y : Int) =>
  letK (l20_20.set k0 (Go.Proofs.Ytekacbjnpeglhaa.PBan.Ban.mk t_27_a t_27_x t_22 t_27_y)) fun (l29_29 : (List Go.Proofs.Ytekacbjnpeglhaa.PBan.Ban)) =>
  letK (IntKind.i64.wrap (t_22 + 1)) fun (t_31 : Int) =>
  Option.bind (idx l29_29 (k0 : Int)) fun (yt_36 : Go.Proofs.Ytekacbjnpeglhaa.PBan.Ban) =>
  unBan yt_36 fun (t_36_a : Int) (t_36_x : Int) (t_36_b : Int) (t_36_y : Int) =>
  letK (l29_29.set k0 (Go.Proofs.Ytekacbjnpeglhaa.PBan.Ban.mk t_36_a t_36_x t_36_b t_31)) fun (l38_38 : (List Go.Proofs.Ytekacbjnpeglhaa.PBan.Ban)) =>
  letK (IntKind.i64.wrap (t_31 + 1)) fun (t_40 : Int) =>
  appK nx0 (l38_38, t_40)

def e0  (s : (List Go.Proofs.Ytekacbjnpeglhaa.PBan.Ban) × Int) : Option (Int × (List Go.Proofs.Ytekacbjnpeglhaa.PBan.Ban)) :=
  unp2 s fun a_0l0 k_1l0 =>
  some (k_1l0, a_0l0)

def P (a : (List Go.Proofs.Ytekacbjnpeglhaa.PBan.Ban)) (k_1 : Int) : Option (Int × (List Go.Proofs.Ytekacbjnpeglhaa.PBan.Ban)) :=
  cntK (l0 ) (a.length) 0 (a, k_1) (e0 )

set_option maxRecDepth 100000 in
set_option maxHeartbeats 2000000 in
theorem C (a : (List Go.Proofs.Ytekacbjnpeglhaa.PBan.Ban)) (k_1 : Int) (A0 : Option Addr) (c0 : Nat)  (b0 : Nat) (w : World) (M0 : Hid (w.ownsRow b0 57 4 (.slice A0 a.length c0) a.length (Go.Proofs.Ytekacbjnpeglhaa.PBan.flat a))) (N0 : Hid (a.length ≤ 9223372036854775807))  {r : Int} {l_ : (List Go.Proofs.Ytekacbjnpeglhaa.PBan.Ban)} (H : Hid (P a k_1 = some (r, l_))) :
    Calls Try.prog 69 #[.slice A0 a.length c0, .int .i64 k_1] w (fun e w' => e = .returned (.int .i64 r) ∧ w'.ownsRow b0 57 4 (.slice A0 a.length c0) a.length (Go.Proofs.Ytekacbjnpeglhaa.PBan.flat l_) ∧ l_.length = a.length ∧ w.grownBy w' (Value.slice A0 a.length c0).ownBlock) := by
  have HB := Lib.hid (Aid.grown_refl w (Value.slice A0 a.length c0).ownBlock)
  unfold P at H
  have N0o := N0.out
  go_enter Try.func69, Try.ntmps69
  go_wp2_with fail
  have hb_0 : a.length ≤ 9223372036854775807 := own_max M0.out
  go_wp2_with fail
  go_loopg [5, 1] (a.length) (fun m_ v5_ v1_ wr => ∃ (k0 : Nat) (a_0l0 : (List Go.Proofs.Ytekacbjnpeglhaa.PBan.Ban)) (k_1l0 : Int), k0 + m_ = a.length ∧ v5_ = .int .i64 (k0 : Int) ∧ v1_ = .int .i64 k_1l0 ∧ Hid (cntK (l0 ) m_ k0 (a_0l0, k_1l0) (e0 ) = some (r, l_)) ∧ Hid (w.grownBy wr (Value.slice A0 a.length c0).ownBlock) ∧ Hid (wr.ownsRow b0 57 4 (.slice A0 a.length c0) a.length (Go.Proofs.Ytekacbjnpeglhaa.PBan.flat a_0l0)) ∧ Hid (a_0l0.length = a.length))
  case atStart => exact ⟨0, _, _, by omega, rfl, rfl, H, HB, M0, Lib.hid (rfl)⟩
  case round =>
    obtain ⟨k0, a_0l0, k_1l0, hkm0, rfl, rfl, H, HBwr0, Oa_0l0, hna_0l0⟩ := hrel
    rename World => wr0
    cases gk with
    | zero =>
      obtain rfl : k0 = a.length := by omega
      have hc0 : decide (((a.length : Nat) : Int) < ((a.length : Nat) : Int)) = false := by simp
      replace H := cnt_zero H
      unfold e0 at H
      replace H := unp2_hid H
      cases ret_hid H
      go_wp2_with fail
      go_ret
      exact ⟨rfl, Oa_0l0.out, hna_0l0.out, HBwr0.out⟩
    | succ m0 =>
      have hlt0 : k0 < a.length := by omega
      have hc0 : decide ((k0 : Int) < ((a.length : Nat) : Int)) = true := by simp; omega
      replace H := cnt_succ H
      unfold l0 at H
      replace H := unp2_hid H
      replace H := idx_hid H
      obtain ⟨nt_9, yt_9, et_9, lt_9, gt_9, H⟩ := H
      obtain rfl : k0 = nt_9 := by omega
      clear et_9
      obtain ⟨t_9_a, t_9_x, t_9_b, t_9_y⟩ := yt_9
      replace H := unBan_hid H
      have hqt_9 := hna_0l0.out
      obtain ⟨qt_9, Qt_9⟩ := own_some Oa_0l0.out (by omega)
      subst Qt_9
      obtain ⟨ab_t_9, ao_t_9, zt_9, At_9, z_t_9, ct_9_0, ct_9_1, ct_9_2, ct_9_3⟩ := Go.Proofs.Ytekacbjnpeglhaa.OBan.at_ (own_cells Oa_0l0.out) (k := k0) (by omega)
      obtain rfl := Option.some.inj (gt_9.out.symm.trans z_t_9)
      simp only [Option.some.injEq, Addr.mk.injEq] at At_9
      obtain ⟨rfl, rfl, _⟩ := At_9
      clear z_t_9
      simp only [Nat.zero_add] at ct_9_0 ct_9_1 ct_9_2 ct_9_3
      have b0t_9 : (0 : Int) ≤ (k0 : Int) := by omega
      have b1t_9 : (k0 : Int) < ((a.length : Nat) : Int) := by omega
      have b2t_9 : ((k0 : Int)).toNat = k0 := by omega
      clear hqt_9
      replace H := let_hid H
      obtain ⟨l11_11, hl11_11, H⟩ := H
      obtain ⟨wl11_11, hwl11_11⟩ : ∃ x, (wr0).setCell ⟨qt_9, k0 * 4, none⟩ (.int .i64 k_1l0) = x := ⟨_, rfl⟩
      have z0l11_11 := Oa_0l0.out.frozenAt (k0 * 4)
      have Sl11_11 := Lib.hid (own_stores [(k0 * 4, .int .i64 k_1l0)] Oa_0l0.out)
      have nl11_11 : Hid (l11_11.length = a.length) := Lib.hid (by rw [← hl11_11, List.length_set]; exact hna_0l0.out)
      have Pl11_11 : Hid (wl11_11.ownsRow b0 57 4 (.slice (some ⟨qt_9, 0, none⟩) a.length c0) a.length (Go.Proofs.Ytekacbjnpeglhaa.PBan.flat l11_11)) := Lib.hid (by have es_ := set_self gt_9.out; have e0_ := flat_set Go.Proofs.Ytekacbjnpeglhaa.PBan.Ban.cells 4 (fun _ => rfl) a_0l0 (k0) 0 (Go.Proofs.Ytekacbjnpeglhaa.PBan.Ban.mk t_9_a t_9_x t_9_b t_9_y) (Go.Proofs.Ytekacbjnpeglhaa.PBan.Ban.mk k_1l0 t_9_x t_9_b t_9_y) (.int .i64 k_1l0) lt_9 (by decide) rfl; rw [es_] at e0_; have e_ : ([(k0 * 4, .int .i64 k_1l0)] : List (Nat × Value)).foldl (fun xs p => xs.set p.1 p.2) (Go.Proofs.Ytekacbjnpeglhaa.PBan.flat a_0l0) = (Go.Proofs.Ytekacbjnpeglhaa.PBan.flat l11_11) := (by rw [← hl11_11]; show _ = List.flatMap Go.Proofs.Ytekacbjnpeglhaa.PBan.Ban.cells _; rw [← e0_]; first | done | rfl); rw [← hwl11_11, ← e_]; exact Sl11_11.out.1)
      have Gl11_11 : Hid (wr0.grownBy wl11_11 (Value.slice (some ⟨qt_9, 0, none⟩) a.length c0).ownBlock) := Lib.hid (by rw [← hwl11_11]; exact Sl11_11.out.2)
      have HBwl11_11 := Lib.hid (Aid.grown_tr HBwr0.out Gl11_11.out)
      have hhl11_11 := Lib.hid hl11_11
      clear hl11_11 Sl11_11
      clear Oa_0l0 Gl11_11
      replace H := let_hid H
      obtain ⟨t_13, ht_13, H⟩ := H
      replace H := idx_hid H
      obtain ⟨nt_18, yt_18, et_18, lt_18, gt_18, H⟩ := H
      obtain rfl : k0 = nt_18 := by omega
      clear et_18
      obtain ⟨t_18_a, t_18_x, t_18_b, t_18_y⟩ := yt_18
      replace H := unBan_hid H
      have hqt_18 := nl11_11.out
      obtain ⟨ab_t_18, ao_t_18, zt_18, At_18, z_t_18, ct_18_0, ct_18_1, ct_18_2, ct_18_3⟩ := Go.Proofs.Ytekacbjnpeglhaa.OBan.at_ (own_cells Pl11_11.out) (k := k0) (by omega)
      obtain rfl := Option.some.inj (gt_18.out.symm.trans z_t_18)
      simp only [Option.some.injEq, Addr.mk.injEq] at At_18
      obtain ⟨rfl, rfl, _⟩ := At_18
      clear z_t_18
      simp only [Nat.zero_add] at ct_18_0 ct_18_1 ct_18_2 ct_18_3
      have b0t_18 : (0 : Int) ≤ (k0 : Int) := by omega
      have b1t_18 : (k0 : Int) < ((a.length : Nat) : Int) := by omega
      have b2t_18 : ((k0 : Int)).toNat = k0 := by omega
      clear hqt_18
      replace H := let_hid H
      obtain ⟨l20_20, hl20_20, H⟩ := H
      obtain ⟨wl20_20, hwl20_20⟩ : ∃ x, (wl11_11).setCell ⟨qt_9, k0 * 4 + 1, none⟩ (.int .i64 t_13) = x := ⟨_, rfl⟩
      have z0l20_20 := Pl11_11.out.frozenAt (k0 * 4 + 1)
      have Sl20_20 := Lib.hid (own_stores [(k0 * 4 + 1, .int .i64 t_13)] Pl11_11.out)
      have nl20_20 : Hid (l20_20.length = a.length) := Lib.hid (by rw [← hl20_20, List.length_set]; exact nl11_11.out)
      have Pl20_20 : Hid (wl20_20.ownsRow b0 57 4 (.slice (some ⟨qt_9, 0, none⟩) a.length c0) a.length (Go.Proofs.Ytekacbjnpeglhaa.PBan.flat l20_20)) := Lib.hid (by have es_ := set_self gt_18.out; have e0_ := flat_set Go.Proofs.Ytekacbjnpeglhaa.PBan.Ban.cells 4 (fun _ => rfl) l11_11 (k0) 1 (Go.Proofs.Ytekacbjnpeglhaa.PBan.Ban.mk t_18_a t_18_x t_18_b t_18_y) (Go.Proofs.Ytekacbjnpeglhaa.PBan.Ban.mk t_18_a t_13 t_18_b t_18_y) (.int .i64 t_13) lt_18 (by decide) rfl; rw [es_] at e0_; have e_ : ([(k0 * 4 + 1, .int .i64 t_13)] : List (Nat × Value)).foldl (fun xs p => xs.set p.1 p.2) (Go.Proofs.Ytekacbjnpeglhaa.PBan.flat l11_11) = (Go.Proofs.Ytekacbjnpeglhaa.PBan.flat l20_20) := (by rw [← hl20_20]; show _ = List.flatMap Go.Proofs.Ytekacbjnpeglhaa.PBan.Ban.cells _; rw [← e0_]; first | done | rfl); rw [← hwl20_20, ← e_]; exact Sl20_20.out.1)
      have Gl20_20 : Hid (wl11_11.grownBy wl20_20 (Value.slice (some ⟨qt_9, 0, none⟩) a.length c0).ownBlock) := Lib.hid (by rw [← hwl20_20]; exact Sl20_20.out.2)
      have HBwl20_20 := Lib.hid (Aid.grown_tr HBwl11_11.out Gl20_20.out)
      have hhl20_20 := Lib.hid hl20_20
      clear hl20_20 Sl20_20
      clear Pl11_11 Gl20_20
      replace H := let_hid H
      obtain ⟨t_22, ht_22, H⟩ := H
      replace H := idx_hid H
      obtain ⟨nt_27, yt_27, et_27, lt_27, gt_27, H⟩ := H
      obtain rfl : k0 = nt_27 := by omega
      clear et_27
      obtain ⟨t_27_a, t_27_x, t_27_b, t_27_y⟩ := yt_27
      replace H := unBan_hid H
      have hqt_27 := nl20_20.out
      obtain ⟨ab_t_27, ao_t_27, zt_27, At_27, z_t_27, ct_27_0, ct_27_1, ct_27_2, ct_27_3⟩ := Go.Proofs.Ytekacbjnpeglhaa.OBan.at_ (own_cells Pl20_20.out) (k := k0) (by omega)
      obtain rfl := Option.some.inj (gt_27.out.symm.trans z_t_27)
      simp only [Option.some.injEq, Addr.mk.injEq] at At_27
      obtain ⟨rfl, rfl, _⟩ := At_27
      clear z_t_27
      simp only [Nat.zero_add] at ct_27_0 ct_27_1 ct_27_2 ct_27_3
      have b0t_27 : (0 : Int) ≤ (k0 : Int) := by omega
      have b1t_27 : (k0 : Int) < ((a.length : Nat) : Int) := by omega
      have b2t_27 : ((k0 : Int)).toNat = k0 := by omega
      clear hqt_27
      replace H := let_hid H
      obtain ⟨l29_29, hl29_29, H⟩ := H
      obtain ⟨wl29_29, hwl29_29⟩ : ∃ x, (wl20_20).setCell ⟨qt_9, k0 * 4 + 2, none⟩ (.int .i64 t_22) = x := ⟨_, rfl⟩
      have z0l29_29 := Pl20_20.out.frozenAt (k0 * 4 + 2)
      have Sl29_29 := Lib.hid (own_stores [(k0 * 4 + 2, .int .i64 t_22)] Pl20_20.out)
      have nl29_29 : Hid (l29_29.length = a.length) := Lib.hid (by rw [← hl29_29, List.length_set]; exact nl20_20.out)
      have Pl29_29 : Hid (wl29_29.ownsRow b0 57 4 (.slice (some ⟨qt_9, 0, none⟩) a.length c0) a.length (Go.Proofs.Ytekacbjnpeglhaa.PBan.flat l29_29)) := Lib.hid (by have es_ := set_self gt_27.out; have e0_ := flat_set Go.Proofs.Ytekacbjnpeglhaa.PBan.Ban.cells 4 (fun _ => rfl) l20_20 (k0) 2 (Go.Proofs.Ytekacbjnpeglhaa.PBan.Ban.mk t_27_a t_27_x t_27_b t_27_y) (Go.Proofs.Ytekacbjnpeglhaa.PBan.Ban.mk t_27_a t_27_x t_22 t_27_y) (.int .i64 t_22) lt_27 (by decide) rfl; rw [es_] at e0_; have e_ : ([(k0 * 4 + 2, .int .i64 t_22)] : List (Nat × Value)).foldl (fun xs p => xs.set p.1 p.2) (Go.Proofs.Ytekacbjnpeglhaa.PBan.flat l20_20) = (Go.Proofs.Ytekacbjnpeglhaa.PBan.flat l29_29) := (by rw [← hl29_29]; show _ = List.flatMap Go.Proofs.Ytekacbjnpeglhaa.PBan.Ban.cells _; rw [← e0_]; first | done | rfl); rw [← hwl29_29, ← e_]; exact Sl29_29.out.1)
      have Gl29_29 : Hid (wl20_20.grownBy wl29_29 (Value.slice (some ⟨qt_9, 0, none⟩) a.length c0).ownBlock) := Lib.hid (by rw [← hwl29_29]; exact Sl29_29.out.2)
      have HBwl29_29 := Lib.hid (Aid.grown_tr HBwl20_20.out Gl29_29.out)
      have hhl29_29 := Lib.hid hl29_29
      clear hl29_29 Sl29_29
      clear Pl20_20 Gl29_29
      replace H := let_hid H
      obtain ⟨t_31, ht_31, H⟩ := H
      replace H := idx_hid H
      obtain ⟨nt_36, yt_36, et_36, lt_36, gt_36, H⟩ := H
      obtain rfl : k0 = nt_36 := by omega
      clear et_36
      obtain ⟨t_36_a, t_36_x, t_36_b, t_36_y⟩ := yt_36
      replace H := unBan_hid H
      have hqt_36 := nl29_29.out
      obtain ⟨ab_t_36, ao_t_36, zt_36, At_36, z_t_36, ct_36_0, ct_36_1, ct_36_2, ct_36_3⟩ := Go.Proofs.Ytekacbjnpeglhaa.OBan.at_ (own_cells Pl29_29.out) (k := k0) (by omega)
      obtain rfl := Option.some.inj (gt_36.out.symm.trans z_t_36)
      simp only [Option.some.injEq, Addr.mk.injEq] at At_36
      obtain ⟨rfl, rfl, _⟩ := At_36
      clear z_t_36
      simp only [Nat.zero_add] at ct_36_0 ct_36_1 ct_36_2 ct_36_3
      have b0t_36 : (0 : Int) ≤ (k0 : Int) := by omega
      have b1t_36 : (k0 : Int) < ((a.length : Nat) : Int) := by omega
      have b2t_36 : ((k0 : Int)).toNat = k0 := by omega
      clear hqt_36
      replace H := let_hid H
      obtain ⟨l38_38, hl38_38, H⟩ := H
      obtain ⟨wl38_38, hwl38_38⟩ : ∃ x, (wl29_29).setCell ⟨qt_9, k0 * 4 + 3, none⟩ (.int .i64 t_31) = x := ⟨_, rfl⟩
      have z0l38_38 := Pl29_29.out.frozenAt (k0 * 4 + 3)
      have Sl38_38 := Lib.hid (own_stores [(k0 * 4 + 3, .int .i64 t_31)] Pl29_29.out)
      have nl38_38 : Hid (l38_38.length = a.length) := Lib.hid (by rw [← hl38_38, List.length_set]; exact nl29_29.out)
      have Pl38_38 : Hid (wl38_38.ownsRow b0 57 4 (.slice (some ⟨qt_9, 0, none⟩) a.length c0) a.length (Go.Proofs.Ytekacbjnpeglhaa.PBan.flat l38_38)) := Lib.hid (by have es_ := set_self gt_36.out; have e0_ := flat_set Go.Proofs.Ytekacbjnpeglhaa.PBan.Ban.cells 4 (fun _ => rfl) l29_29 (k0) 3 (Go.Proofs.Ytekacbjnpeglhaa.PBan.Ban.mk t_36_a t_36_x t_36_b t_36_y) (Go.Proofs.Ytekacbjnpeglhaa.PBan.Ban.mk t_36_a t_36_x t_36_b t_31) (.int .i64 t_31) lt_36 (by decide) rfl; rw [es_] at e0_; have e_ : ([(k0 * 4 + 3, .int .i64 t_31)] : List (Nat × Value)).foldl (fun xs p => xs.set p.1 p.2) (Go.Proofs.Ytekacbjnpeglhaa.PBan.flat l29_29) = (Go.Proofs.Ytekacbjnpeglhaa.PBan.flat l38_38) := (by rw [← hl38_38]; show _ = List.flatMap Go.Proofs.Ytekacbjnpeglhaa.PBan.Ban.cells _; rw [← e0_]; first | done | rfl); rw [← hwl38_38, ← e_]; exact Sl38_38.out.1)
      have Gl38_38 : Hid (wl29_29.grownBy wl38_38 (Value.slice (some ⟨qt_9, 0, none⟩) a.length c0).ownBlock) := Lib.hid (by rw [← hwl38_38]; exact Sl38_38.out.2)
      have HBwl38_38 := Lib.hid (Aid.grown_tr HBwl29_29.out Gl38_38.out)
      have hhl38_38 := Lib.hid hl38_38
      clear hl38_38 Sl38_38
      clear Pl29_29 Gl38_38
      replace H := let_hid H
      obtain ⟨t_40, ht_40, H⟩ := H
      replace H := app_hid H
      go_wp2_with fail
      clear z0l11_11 ct_9_0 ct_9_1 ct_9_2 ct_9_3 z0l20_20 ct_18_0 ct_18_1 ct_18_2 ct_18_3 z0l29_29 ct_27_0 ct_27_1 ct_27_2 ct_27_3 z0l38_38 ct_36_0 ct_36_1 ct_36_2 ct_36_3
      go_roundg m0
      case measure => omega
      case rel => exact ⟨k0 + 1, _, _, by omega, by go_num, rfl, H, HBwl38_38, Pl38_38, Lib.hid (nl38_38.out)⟩
end Go.Proofs.Ytekacbjnpeglhaa.GlMarkBanS

/- loop.example/g01062/laws.markKindTable as a plain function, and the contract of the program's: where the plain one has an answer, the program has it. Conditions: slices read as lists. -/
namespace Go.Proofs.Ytekacbjnpeglhaa.GlMarkKindTable
set_option linter.unusedVariables false
set_option linter.unusedSimpArgs false
open Go.RowKit
open Go.Proofs.Ytekacbjnpeglhaa.Rowed Go.Proofs.Ytekacbjnpeglhaa.Turn Go.Proofs.Ytekacbjnpeglhaa.Aid Go.Proofs.Ytekacbjnpeglhaa.GoP Go.Proofs.Ytekacbjnpeglhaa.GoM

def P (a_sizes : (List Int)) (a_bans : (List Go.Proofs.Ytekacbjnpeglhaa.PBan.Ban)) (k_1 : Int) : Option (Int × (List Int) × (List Go.Proofs.Ytekacbjnpeglhaa.PBan.Ban)) :=
  bind2 (Go.Proofs.Ytekacbjnpeglhaa.GlMarkIntS.P a_sizes k_1) fun (t_5 : Int) (lt_5 : (List Int)) =>
  bind2 (Go.Proofs.Ytekacbjnpeglhaa.GlMarkBanS.P a_bans t_5) fun (t_10 : Int) (lt_10 : (List Go.Proofs.Ytekacbjnpeglhaa.PBan.Ban)) =>
  some (t_10, lt_5, lt_10)

set_option maxRecDepth 100000 in
set_option maxHeartbeats 2000000 in
theorem C (a_sizes : (List Int)) (a_bans : (List Go.Proofs.Ytekacbjnpeglhaa.PBan.Ban)) (k_1 : Int) (A0_0 : Option Addr) (c0_0 : Nat) (A0_1 : Option Addr) (c0_1 : Nat)  (b0 : Nat) (w : World) (M0_0 : Hid (w.ownsRow b0 3 1 (.slice A0_0 a_sizes.length c0_0) a_sizes.length (Go.Proofs.Ytekacbjnpeglhaa.HelpInt.iv a_sizes))) (N0_0 : Hid (a_sizes.length ≤ 9223372036854775807)) (M0_1 : Hid (w.ownsRow b0 57 4 (.slice A0_1 a_bans.length c0_1) a_bans.length (Go.Proofs.Ytekacbjnpeglhaa.PBan.flat a_bans))) (N0_1 : Hid (a_bans.length ≤ 9223372036854775807))  (DA : Hid (Apart A0_0 A0_1)) {r : Int} {l_ : (List Int)} {m_ : (List Go.Proofs.Ytekacbjnpeglhaa.PBan.Ban)} (H : Hid (P a_sizes a_bans k_1 = some (r, l_, m_))) :
    Calls Try.prog 26 #[.agg #[.slice A0_0 a_sizes.length c0_0, .slice A0_1 a_bans.length c0_1], .int .i64 k_1] w (fun e w' => e = .returned (.int .i64 r) ∧ w'.ownsRow b0 3 1 (.slice A0_0 a_sizes.length c0_0) a_sizes.length (Go.Proofs.Ytekacbjnpeglhaa.HelpInt.iv l_) ∧ l_.length = a_sizes.length ∧ w'.ownsRow b0 57 4 (.slice A0_1 a_bans.length c0_1) a_bans.length (Go.Proofs.Ytekacbjnpeglhaa.PBan.flat m_) ∧ m_.length = a_bans.length ∧ Grown2 w w' A0_0 A0_1) := by
  have HB := Lib.hid (grown2_refl w A0_0 A0_1)
  unfold P at H
  have N0_0o := N0_0.out
  have N0_1o := N0_1.out
  go_enter Try.func26, Try.ntmps26
  obtain ⟨w_a_0, hw_a_0⟩ : ∃ x, w.alloc (.cells #[.slice A0_0 a_sizes.length c0_0, .slice A0_1 a_bans.length c0_1] 30) = x := ⟨_, rfl⟩
  have bw_a_0 : Below w.heap.size w w_a_0 := by rw [← hw_a_0]; exact (Below.refl _ _).alloc (Nat.le_refl _) _
  have Da_0_io0_0 := Lib.hid (apart_fresh M0_0.out)
  have Da_0_io0_1 := Lib.hid (apart_fresh M0_1.out)
  have HBw_a_0 := Lib.hid (grown2_below HB.out bw_a_0)
  replace M0_0 := Lib.hid (own_below M0_0.out bw_a_0)
  replace M0_1 := Lib.hid (own_below M0_1.out bw_a_0)
  clear bw_a_0
  have ka_0_0 : w_a_0.cell? ⟨w.heap.size, 0, none⟩ = some (.slice A0_0 a_sizes.length c0_0) := by rw [← hw_a_0]; exact box_new _ _ _ 0 _ rfl
  have ka_0_1 : w_a_0.cell? ⟨w.heap.size, 1, none⟩ = some (.slice A0_1 a_bans.length c0_1) := by rw [← hw_a_0]; exact box_new _ _ _ 1 _ rfl
  replace H := bind2_hid H
  obtain ⟨t_5, lt_5, qt_5, H⟩ := H
  go_wp2_with fail
  go_at_call 27
  refine (Go.Proofs.Ytekacbjnpeglhaa.GlMarkIntS.C (a_sizes) (k_1) A0_0 c0_0 b0 _   M0_0 (Lib.hid (own_max M0_0.out))   qt_5).mono ?_
  rintro e_t_5 wt_5 ⟨rfl, ot_5, nt_5, gt_5⟩
  have Pt_5 := Lib.hid ot_5
  have Gt_5 := Lib.hid gt_5
  replace nt_5 := Lib.hid nt_5
  clear ot_5 gt_5
  have HBwt_5 := Lib.hid (grown2_l HBw_a_0.out Gt_5.out)
  replace ka_0_0 := cell_other ka_0_0 Gt_5.out (Apart.symm Da_0_io0_0.out)
  replace ka_0_1 := cell_other ka_0_1 Gt_5.out (Apart.symm Da_0_io0_0.out)
  replace M0_1 := Lib.hid (own_other M0_1.out Gt_5.out DA.out)
  clear M0_0 Gt_5
  replace H := bind2_hid H
  obtain ⟨t_10, lt_10, qt_10, H⟩ := H
  go_wp2_with fail
  go_at_call 69
  refine (Go.Proofs.Ytekacbjnpeglhaa.GlMarkBanS.C (a_bans) (t_5) A0_1 c0_1 b0 _   M0_1 (Lib.hid (own_max M0_1.out))   qt_10).mono ?_
  rintro e_t_10 wt_10 ⟨rfl, ot_10, nt_10, gt_10⟩
  have Pt_10 := Lib.hid ot_10
  have Gt_10 := Lib.hid gt_10
  replace nt_10 := Lib.hid nt_10
  clear ot_10 gt_10
  have HBwt_10 := Lib.hid (grown2_r HBwt_5.out Gt_10.out)
  replace ka_0_0 := cell_other ka_0_0 Gt_10.out (Apart.symm Da_0_io0_1.out)
  replace ka_0_1 := cell_other ka_0_1 Gt_10.out (Apart.symm Da_0_io0_1.out)
  replace Pt_5 := Lib.hid (own_other Pt_5.out Gt_10.out (Apart.symm DA.out))
  clear M0_1 Gt_10
  cases ret_hid H
  go_wp2_with fail
  go_ret
  exact ⟨rfl, Pt_5.out, nt_5.out, Pt_10.out, nt_10.out, HBwt_10.out⟩
end Go.Proofs.Ytekacbjnpeglhaa.GlMarkKindTable

/- loop.example/g01062/laws.heldIntS as a plain function, and the contract of the program's: where the plain one has an answer, the program has it. Conditions: slices read as lists. -/
namespace Go.Proofs.Ytekacbjnpeglhaa.GlHeldIntS
set_option linter.unusedVariables false
set_option linter.unusedSimpArgs false
open Go.RowKit
open Go.Proofs.Ytekacbjnpeglhaa.Rowed Go.Proofs.Ytekacbjnpeglhaa.Turn Go.Proofs.Ytekacbjnpeglhaa.Aid Go.Proofs.Ytekacbjnpeglhaa.GoP Go.Proofs.Ytekacbjnpeglhaa.GoM

def l0 (a : (List Int)) (k0 : Nat) (s : Int) (nx0 bk0 : Int → Option (Int)) : Option (Int) :=
  letK s fun k_1l0 =>
  Option.bind (idx a (k0 : Int)) fun (yt_8 : Int) =>
  letK (yt_8 != k_1l0) fun (t_11 : Bool) =>
  iteK t_11
  (some (-1))
  (letK (IntKind.i64.wrap (k_1l0 + 1)) fun (t_14 : Int) =>
  appK nx0 (t_14))

def e0  (s : Int) : Option (Int) :=
  letK s fun k_1l0 =>
  some k_1l0

def P (a : (List Int)) (k_1 : Int) : Option (Int) :=
  cntK (l0 a) (a.length) 0 (k_1) (e0 )

set_option maxRecDepth 100000 in
set_option maxHeartbeats 2000000 in
theorem C (a : (List Int)) (k_1 : Int) (A0 : Option Addr) (c0 : Nat)  (w : World) (M0 : Hid (Cells w 1 A0 a.length (Go.Proofs.Ytekacbjnpeglhaa.HelpInt.iv a))) (N0 : Hid (a.length ≤ 9223372036854775807))  {r : Int} (H : Hid (P a k_1 = some r)) :
    Calls Try.prog 28 #[.slice A0 a.length c0, .int .i64 k_1] w (Gives (.int .i64 r) w) := by
  have HB := Lib.hid (Below.refl w.heap.size w)
  unfold P at H
  have N0o := N0.out
  go_enter Try.func28, Try.ntmps28
  go_wp2_with fail
  go_loopg [5, 1] (a.length) (fun m_ v5_ v1_ wr => ∃ (k0 : Nat) (k_1l0 : Int), k0 + m_ = a.length ∧ v5_ = .int .i64 (k0 : Int) ∧ v1_ = .int .i64 k_1l0 ∧ Hid (cntK (l0 a) m_ k0 (k_1l0) (e0 ) = some r) ∧ Hid (Below w.heap.size w wr))
  case atStart => exact ⟨0, _, by omega, rfl, rfl, H, HB⟩
  case round =>
    obtain ⟨k0, k_1l0, hkm0, rfl, rfl, H, HBwr0⟩ := hrel
    rename World => wr0
    cases gk with
    | zero =>
      obtain rfl : k0 = a.length := by omega
      have hc0 : decide (((a.length : Nat) : Int) < ((a.length : Nat) : Int)) = false := by simp
      replace H := cnt_zero H
      unfold e0 at H
      replace H := let_hid H
      obtain ⟨_, rfl, H⟩ := H
      obtain rfl := ret_hid H
      go_wp2_with fail
      go_ret
      exact ⟨rfl, HBwr0.out⟩
    | succ m0 =>
      have hlt0 : k0 < a.length := by omega
      have hc0 : decide ((k0 : Int) < ((a.length : Nat) : Int)) = true := by simp; omega
      replace H := cnt_succ H
      unfold l0 at H
      replace H := let_hid H
      obtain ⟨_, rfl, H⟩ := H
      replace H := idx_hid H
      obtain ⟨nt_8, yt_8, et_8, lt_8, gt_8, H⟩ := H
      obtain rfl : k0 = nt_8 := by omega
      clear et_8
      obtain ⟨ab_t_8, ao_t_8, zt_8, At_8, z_t_8, ct_8_0⟩ := Go.Proofs.Ytekacbjnpeglhaa.HelpInt.Ints.at_ M0.out lt_8
      obtain rfl := Option.some.inj (gt_8.out.symm.trans z_t_8)
      subst At_8
      have ltt_8 := cell_lt ct_8_0
      replace ct_8_0 := cell_below HBwr0.out ct_8_0
      clear z_t_8
      have b0t_8 : (0 : Int) ≤ (k0 : Int) := by omega
      have b1t_8 : (k0 : Int) < ((a.length : Nat) : Int) := by omega
      have b2t_8 : ((k0 : Int)).toNat = k0 := by omega
      replace H := let_hid H
      obtain ⟨t_11, ht_11, H⟩ := H
      cases t_11 with
      | false =>
        replace H := ite_f H
        replace H := let_hid H
        obtain ⟨t_14, ht_14, H⟩ := H
        replace H := app_hid H
        go_wp2_with fail
        go_roundg m0
        case measure => omega
        case rel => exact ⟨k0 + 1, _, by omega, by go_num, rfl, H, HBwr0⟩
      | true =>
        replace H := ite_t H
        obtain rfl := ret_hid H
        go_wp2_with fail
        go_ret
        exact ⟨rfl, HBwr0.out⟩
end Go.Proofs.Ytekacbjnpeglhaa.GlHeldIntS

/- loop.example/g01062/laws.FnExactFirstKind as a plain function, and the contract of the program's: where the plain one has an answer, the program has it. Conditions: slices read as lists. -/
namespace Go.Proofs.Ytekacbjnpeglhaa.GlFnExactFirstKind
set_option linter.unusedVariables false
set_option linter.unusedSimpArgs false
open Go.RowKit
open Go.Proofs.Ytekacbjnpeglhaa.Rowed Go.Proofs.Ytekacbjnpeglhaa.Turn Go.Proofs.Ytekacbjnpeglhaa.Aid Go.Proofs.Ytekacbjnpeglhaa.GoP Go.Proofs.Ytekacbjnpeglhaa.GoM

def P (fuel : Nat) (aT_sizes : (List Int)) (aT_bans : (List Go.Proofs.Ytekacbjnpeglhaa.PBan.Ban)) : Option (Bool) :=
  Option.bind (Go.Proofs.Ytekacbjnpeglhaa.GlSzKindTable.P aT_sizes aT_bans 1048576) fun (t_5 : Int) =>
  letK (decide (t_5 < 0)) fun (t_8 : Bool) =>
  iteK t_8
  (some true)
  (Option.bind (Go.Proofs.Ytekacbjnpeglhaa.GlToKindTable.P aT_sizes aT_bans) fun (t_11 : Go.Proofs.Ytekacbjnpeglhaa.PKindTable.KindTable) =>
  unKindTable t_11 fun (t_11_sizes : (List Int)) (t_11_bans : (List Go.Proofs.Ytekacbjnpeglhaa.PBan.Ban)) =>
  bind2 (Go.Proofs.Ytekacbjnpeglhaa.GsFirstKind.P fuel t_11_sizes t_11_bans) fun (t_12a : (List Int)) (t_12b : Bool) =>
  Option.bind (Go.Proofs.Ytekacbjnpeglhaa.GlToKindTable.P aT_sizes aT_bans) fun (t_19 : Go.Proofs.Ytekacbjnpeglhaa.PKindTable.KindTable) =>
  unKindTable t_19 fun (t_19_sizes : (List Int)) (t_19_bans : (List Go.Proofs.Ytekacbjnpeglhaa.PBan.Ban)) =>
  bind2 (Go.Proofs.Ytekacbjnpeglhaa.GiFirstKind.P fuel t_19_sizes t_19_bans) fun (t_23a : (List Int)) (t_23b : Bool) =>
  Option.bind (Go.Proofs.Ytekacbjnpeglhaa.GlEqIntS.P t_23a t_12a) fun (t_31 : Bool) =>
  letK (!t_31) fun (t_32 : Bool) =>
  joinK (fun (t_37 : Bool) =>
  iteK t_37
  (some false)
  (Option.bind (Go.Proofs.Ytekacbjnpeglhaa.GlToKindTable.P aT_sizes aT_bans) fun (t_41 : Go.Proofs.Ytekacbjnpeglhaa.PKindTable.KindTable) =>
  unKindTable t_41 fun (t_41_sizes : (List Int)) (t_41_bans : (List Go.Proofs.Ytekacbjnpeglhaa.PBan.Ban)) =>
  Option.bind (Go.Proofs.Ytekacbjnpeglhaa.GlEqKindTable.P t_19_sizes t_19_bans t_41_sizes t_41_bans) fun (t_42 : Bool) =>
  letK (!t_42) fun (t_43 : Bool) =>
  iteK t_43
  (some false)
  (bind3 (Go.Proofs.Ytekacbjnpeglhaa.GlMarkKindTable.P t_19_sizes t_19_bans 1) fun (t_48 : Int) (lt_48 : (List Int)) (mt_48 : (List Go.Proofs.Ytekacbjnpeglhaa.PBan.Ban)) =>
  letK (decide (t_48 < 0)) fun (t_51 : Bool) =>
  joinK (fun (t_57 : Bool) =>
  joinK (fun (t_62 : Bool) =>
  iteK t_62
  (some false)
  (bind2 (Go.Proofs.Ytekacbjnpeglhaa.GlMarkIntS.P t_23a 1) fun (t_67 : Int) (lt_67 : (List Int)) =>
  Option.bind (Go.Proofs.Ytekacbjnpeglhaa.GlHeldIntS.P lt_67 1) fun (t_72 : Int) =>
  letK (decide (t_72 < 0)) fun (t_75 : Bool) =>
  iteK t_75
  (some false)
  (letK (t_72 != t_67) fun (t_79 : Bool) =>
  iteK t_79
  (some false)
  (Option.bind (Go.Proofs.Ytekacbjnpeglhaa.GlToKindTable.P aT_sizes aT_bans) fun (t_82 : Go.Proofs.Ytekacbjnpeglhaa.PKindTable.KindTable) =>
  unKindTable t_82 fun (t_82_sizes : (List Int)) (t_82_bans : (List Go.Proofs.Ytekacbjnpeglhaa.PBan.Ban)) =>
  bind2 (Go.Proofs.Ytekacbjnpeglhaa.GiFirstKind.P fuel t_82_sizes t_82_bans) fun (t_83a : (List Int)) (t_83b : Bool) =>
  Option.bind (Go.Proofs.Ytekacbjnpeglhaa.GlEqIntS.P t_83a t_12a) fun (t_91 : Bool) =>
  letK (!t_91) fun (t_92 : Bool) =>
  joinK (fun (t_97 : Bool) =>
  iteK t_97
  (some false)
  (Option.bind (Go.Proofs.Ytekacbjnpeglhaa.GlHeldIntS.P lt_67 1) fun (t_102 : Int) =>
  letK (decide (t_102 < 0)) fun (t_105 : Bool) =>
  iteK t_105
  (some false)
  (letK (t_102 != t_67) fun (t_109 : Bool) =>
  iteK t_109
  (some false)
  (some true)))) fun jt_97 => iteK t_92 (appK jt_97 true) (letK (!(t_83b == t_12b)) fun (t_96 : Bool) =>
  appK jt_97 t_96))))) fun jt_62 => iteK t_57 (appK jt_62 true) (letK (!(t_23b == t_12b)) fun (t_61 : Bool) =>
  appK jt_62 t_61)) fun jt_57 => iteK t_51 (appK jt_57 true) (Option.bind (Go.Proofs.Ytekacbjnpeglhaa.GlEqIntS.P t_23a t_12a) fun (t_55 : Bool) =>
  letK (!t_55) fun (t_56 : Bool) =>
  appK jt_57 t_56)))) fun jt_37 => iteK t_32 (appK jt_37 true) (letK (!(t_23b == t_12b)) fun (t_36 : Bool) =>
  appK jt_37 t_36))

set_option maxRecDepth 100000 in
set_option maxHeartbeats 2000000 in
theorem C (fuel : Nat) (aT_sizes : (List Int)) (aT_bans : (List Go.Proofs.Ytekacbjnpeglhaa.PBan.Ban)) (A0_0 : Option Addr) (c0_0 : Nat) (A0_1 : Option Addr) (c0_1 : Nat)  (w : World) (M0_0 : Hid (Cells w 1 A0_0 aT_sizes.length (Go.Proofs.Ytekacbjnpeglhaa.HelpInt.iv aT_sizes))) (N0_0 : Hid (aT_sizes.length ≤ 9223372036854775807)) (M0_1 : Hid (Cells w 4 A0_1 aT_bans.length (Go.Proofs.Ytekacbjnpeglhaa.PBan.flat aT_bans))) (N0_1 : Hid (aT_bans.length ≤ 9223372036854775807))  {r : Bool} (H : Hid (P fuel aT_sizes aT_bans = some r)) :
    Calls Try.prog 6 #[.agg #[.slice A0_0 aT_sizes.length c0_0, .slice A0_1 aT_bans.length c0_1]] w (Gives (.bool r) w) := by
  have HB := Lib.hid (Below.refl w.heap.size w)
  unfold P at H
  have N0_0o := N0_0.out
  have N0_1o := N0_1.out
  go_enter Try.func6, Try.ntmps6
  obtain ⟨w_aT_0, hw_aT_0⟩ : ∃ x, w.alloc (.cells #[.slice A0_0 aT_sizes.length c0_0, .slice A0_1 aT_bans.length c0_1] 25) = x := ⟨_, rfl⟩
  have bw_aT_0 : Below w.heap.size w w_aT_0 := by rw [← hw_aT_0]; exact (Below.refl _ _).alloc (Nat.le_refl _) _
  have HBw_aT_0 := Lib.hid (Below.step HB.out bw_aT_0)
  clear bw_aT_0
  have kaT_0_0 : w_aT_0.cell? ⟨w.heap.size, 0, none⟩ = some (.slice A0_0 aT_sizes.length c0_0) := by rw [← hw_aT_0]; exact box_new _ _ _ 0 _ rfl
  have kaT_0_1 : w_aT_0.cell? ⟨w.heap.size, 1, none⟩ = some (.slice A0_1 aT_bans.length c0_1) := by rw [← hw_aT_0]; exact box_new _ _ _ 1 _ rfl
  replace H := bind_hid H
  obtain ⟨t_5, qt_5, H⟩ := H
  go_wp2_with fail
  go_at_call 13
  refine (Go.Proofs.Ytekacbjnpeglhaa.GlSzKindTable.C (aT_sizes) (aT_bans) (1048576) A0_0 c0_0 A0_1 c0_1 _   (Lib.hid (Cells.below M0_0.out HBw_aT_0.out)) N0_0 (Lib.hid (Cells.below M0_1.out HBw_aT_0.out)) N0_1 qt_5).mono ?_
  rintro e_t_5 wt_5 ⟨rfl, bt_5⟩
  have HBwt_5 := Lib.hid (Below.step HBw_aT_0.out bt_5)
  replace kaT_0_0 := cell_below bt_5 kaT_0_0
  replace kaT_0_1 := cell_below bt_5 kaT_0_1
  clear bt_5
  replace H := let_hid H
  obtain ⟨t_8, ht_8, H⟩ := H
  cases t_8 with
  | false =>
    replace H := ite_f H
    replace H := bind_hid H
    obtain ⟨t_11, qt_11, H⟩ := H
    obtain ⟨t_11_sizes, t_11_bans⟩ := t_11
    replace H := unKindTable_hid H
    go_wp2_with fail
    go_at_call 15
    refine (Go.Proofs.Ytekacbjnpeglhaa.GlToKindTable.C (aT_sizes) (aT_bans) A0_0 c0_0 A0_1 c0_1 _   (Lib.hid (Cells.below M0_0.out HBwt_5.out)) N0_0 (Lib.hid (Cells.below M0_1.out HBwt_5.out)) N0_1 qt_11).mono ?_
    rintro e_t_11 wt_11 ⟨At_11_sizes, ct_11_sizes, At_11_bans, ct_11_bans, rfl, ot_11_sizes, ot_11_bans, d0_1, bt_11⟩
    have Dt_11_sizes_aT_0 := Lib.hid (apart_callbox ot_11_sizes kaT_0_0)
    have Dt_11_bans_aT_0 := Lib.hid (apart_callbox ot_11_bans kaT_0_0)
    have Dt_11_sizes_t_11_bans := Lib.hid d0_1
    have Ot_11_sizes := Lib.hid (own_lower ot_11_sizes HBwt_5.out.size)
    clear ot_11_sizes
    have Ot_11_bans := Lib.hid (own_lower ot_11_bans HBwt_5.out.size)
    clear ot_11_bans
    have HBwt_11 := Lib.hid (Below.step HBwt_5.out bt_11)
    replace kaT_0_0 := cell_below bt_11 kaT_0_0
    replace kaT_0_1 := cell_below bt_11 kaT_0_1
    clear bt_11
    replace H := bind2_hid H
    obtain ⟨t_12a, t_12b, qt_12, H⟩ := H
    go_wp2_with fail
    go_at_call 24
    refine (Go.Proofs.Ytekacbjnpeglhaa.GsFirstKind.C fuel (t_11_sizes) (t_11_bans) At_11_sizes ct_11_sizes At_11_bans ct_11_bans _   (Lib.hid (own_cells Ot_11_sizes.out)) (Lib.hid (own_max Ot_11_sizes.out)) (Lib.hid (own_cells Ot_11_bans.out)) (Lib.hid (own_max Ot_11_bans.out)) qt_12).mono ?_
    rintro e_t_12 wt_12 ⟨At_12a, ct_12a, rfl, ot_12a, bt_12⟩
    have Dt_12a_t_11_sizes := Lib.hid (apart_call ot_12a Ot_11_sizes.out)
    have Dt_12a_t_11_bans := Lib.hid (apart_call ot_12a Ot_11_bans.out)
    have Dt_12a_aT_0 := Lib.hid (apart_callbox ot_12a kaT_0_0)
    have Ot_12a := Lib.hid (own_lower ot_12a HBwt_11.out.size)
    clear ot_12a
    have HBwt_12 := Lib.hid (Below.step HBwt_11.out bt_12)
    replace kaT_0_0 := cell_below bt_12 kaT_0_0
    replace kaT_0_1 := cell_below bt_12 kaT_0_1
    replace Ot_11_sizes := Lib.hid (own_below Ot_11_sizes.out bt_12)
    replace Ot_11_bans := Lib.hid (own_below Ot_11_bans.out bt_12)
    clear bt_12
    replace H := bind_hid H
    obtain ⟨t_19, qt_19, H⟩ := H
    obtain ⟨t_19_sizes, t_19_bans⟩ := t_19
    replace H := unKindTable_hid H
    go_wp2_with fail
    go_at_call 15
    refine (Go.Proofs.Ytekacbjnpeglhaa.GlToKindTable.C (aT_sizes) (aT_bans) A0_0 c0_0 A0_1 c0_1 _   (Lib.hid (Cells.below M0_0.out HBwt_12.out)) N0_0 (Lib.hid (Cells.below M0_1.out HBwt_12.out)) N0_1 qt_19).mono ?_
    rintro e_t_19 wt_19 ⟨At_19_sizes, ct_19_sizes, At_19_bans, ct_19_bans, rfl, ot_19_sizes, ot_19_bans, d0_1, bt_19⟩
    have Dt_19_sizes_t_11_sizes := Lib.hid (apart_call ot_19_sizes Ot_11_sizes.out)
    have Dt_19_sizes_t_11_bans := Lib.hid (apart_call ot_19_sizes Ot_11_bans.out)
    have Dt_19_sizes_t_12a := Lib.hid (apart_call ot_19_sizes Ot_12a.out)
    have Dt_19_sizes_aT_0 := Lib.hid (apart_callbox ot_19_sizes kaT_0_0)
    have Dt_19_bans_t_11_sizes := Lib.hid (apart_call ot_19_bans Ot_11_sizes.out)
    have Dt_19_bans_t_11_bans := Lib.hid (apart_call ot_19_bans Ot_11_bans.out)
    have Dt_19_bans_t_12a := Lib.hid (apart_call ot_19_bans Ot_12a.out)
    have Dt_19_bans_aT_0 := Lib.hid (apart_callbox ot_19_bans kaT_0_0)
    have Dt_19_sizes_t_19_bans := Lib.hid d0_1
    have Ot_19_sizes := Lib.hid (own_lower ot_19_sizes HBwt_12.out.size)
    clear ot_19_sizes
    have Ot_19_bans := Lib.hid (own_lower ot_19_bans HBwt_12.out.size)
    clear ot_19_bans
    have HBwt_19 := Lib.hid (Below.step HBwt_12.out bt_19)
    replace kaT_0_0 := cell_below bt_19 kaT_0_0
    replace kaT_0_1 := cell_below bt_19 kaT_0_1
    replace Ot_11_sizes := Lib.hid (own_below Ot_11_sizes.out bt_19)
    replace Ot_11_bans := Lib.hid (own_below Ot_11_bans.out bt_19)
    replace Ot_12a := Lib.hid (own_below Ot_12a.out bt_19)
    clear bt_19
    obtain ⟨w_x0_20, hw_x0_20⟩ : ∃ x, wt_19.alloc (.cells #[.slice At_19_sizes t_19_sizes.length ct_19_sizes, .slice At_19_bans t_19_bans.length ct_19_bans] 30) = x := ⟨_, rfl⟩
    have bw_x0_20 : Below wt_19.heap.size wt_19 w_x0_20 := by rw [← hw_x0_20]; exact (Below.refl _ _).alloc (Nat.le_refl _) _
    have Dx0_20_t_11_sizes := Lib.hid (apart_fresh Ot_11_sizes.out)
    have Dx0_20_t_11_bans := Lib.hid (apart_fresh Ot_11_bans.out)
    have Dx0_20_t_12a := Lib.hid (apart_fresh Ot_12a.out)
    have Dx0_20_t_19_sizes := Lib.hid (apart_fresh Ot_19_sizes.out)
    have Dx0_20_t_19_bans := Lib.hid (apart_fresh Ot_19_bans.out)
    have HBw_x0_20 := Lib.hid (Below.step HBwt_19.out bw_x0_20)
    have kaT_0_0__190 := cell_below bw_x0_20 kaT_0_0
    have kaT_0_1__191 := cell_below bw_x0_20 kaT_0_1
    replace Ot_11_sizes := Lib.hid (own_below Ot_11_sizes.out bw_x0_20)
    replace Ot_11_bans := Lib.hid (own_below Ot_11_bans.out bw_x0_20)
    replace Ot_12a := Lib.hid (own_below Ot_12a.out bw_x0_20)
    replace Ot_19_sizes := Lib.hid (own_below Ot_19_sizes.out bw_x0_20)
    replace Ot_19_bans := Lib.hid (own_below Ot_19_bans.out bw_x0_20)
    clear bw_x0_20
    have kx0_20_0 : w_x0_20.cell? ⟨wt_19.heap.size, 0, none⟩ = some (.slice At_19_sizes t_19_sizes.length ct_19_sizes) := by rw [← hw_x0_20]; exact box_new _ _ _ 0 _ rfl
    have kx0_20_1 : w_x0_20.cell? ⟨wt_19.heap.size, 1, none⟩ = some (.slice At_19_bans t_19_bans.length ct_19_bans) := by rw [← hw_x0_20]; exact box_new _ _ _ 1 _ rfl
    replace H := bind2_hid H
    obtain ⟨t_23a, t_23b, qt_23, H⟩ := H
    go_wp2_with fail
    clear kaT_0_0 kaT_0_1
    go_at_call 25
    refine (Go.Proofs.Ytekacbjnpeglhaa.GiFirstKind.C fuel (t_19_sizes) (t_19_bans) At_19_sizes ct_19_sizes At_19_bans ct_19_bans _   (Lib.hid (own_cells Ot_19_sizes.out)) (Lib.hid (own_max Ot_19_sizes.out)) (Lib.hid (own_cells Ot_19_bans.out)) (Lib.hid (own_max Ot_19_bans.out)) qt_23).mono ?_
    rintro e_t_23 wt_23 ⟨At_23a, ct_23a, rfl, ot_23a, bt_23⟩
    have Dt_23a_t_11_sizes := Lib.hid (apart_call ot_23a Ot_11_sizes.out)
    have Dt_23a_t_11_bans := Lib.hid (apart_call ot_23a Ot_11_bans.out)
    have Dt_23a_t_12a := Lib.hid (apart_call ot_23a Ot_12a.out)
    have Dt_23a_t_19_sizes := Lib.hid (apart_call ot_23a Ot_19_sizes.out)
    have Dt_23a_t_19_bans := Lib.hid (apart_call ot_23a Ot_19_bans.out)
    have Dt_23a_aT_0 := Lib.hid (apart_callbox ot_23a kaT_0_0__190)
    have Dt_23a_x0_20 := Lib.hid (apart_callbox ot_23a kx0_20_0)
    have Ot_23a := Lib.hid (own_lower ot_23a HBw_x0_20.out.size)
    clear ot_23a
    have HBwt_23 := Lib.hid (Below.step HBw_x0_20.out bt_23)
    replace kaT_0_0__190 := cell_below bt_23 kaT_0_0__190
    replace kaT_0_1__191 := cell_below bt_23 kaT_0_1__191
    replace kx0_20_0 := cell_below bt_23 kx0_20_0
    replace kx0_20_1 := cell_below bt_23 kx0_20_1
    replace Ot_11_sizes := Lib.hid (own_below Ot_11_sizes.out bt_23)
    replace Ot_11_bans := Lib.hid (own_below Ot_11_bans.out bt_23)
    replace Ot_12a := Lib.hid (own_below Ot_12a.out bt_23)
    replace Ot_19_sizes := Lib.hid (own_below Ot_19_sizes.out bt_23)
    replace Ot_19_bans := Lib.hid (own_below Ot_19_bans.out bt_23)
    clear bt_23
    replace H := bind_hid H
    obtain ⟨t_31, qt_31, H⟩ := H
    go_wp2_with fail
    go_at_call 21
    refine (Go.Proofs.Ytekacbjnpeglhaa.GlEqIntS.C (t_23a) (t_12a) At_23a ct_23a At_12a ct_12a _   (Lib.hid (own_cells Ot_23a.out)) (Lib.hid (own_max Ot_23a.out)) (Lib.hid (own_cells Ot_12a.out)) (Lib.hid (own_max Ot_12a.out)) qt_31).mono ?_
    rintro e_t_31 wt_31 ⟨rfl, bt_31⟩
    have HBwt_31 := Lib.hid (Below.step HBwt_23.out bt_31)
    replace kaT_0_0__190 := cell_below bt_31 kaT_0_0__190
    replace kaT_0_1__191 := cell_below bt_31 kaT_0_1__191
    replace kx0_20_0 := cell_below bt_31 kx0_20_0
    replace kx0_20_1 := cell_below bt_31 kx0_20_1
    replace Ot_11_sizes := Lib.hid (own_below Ot_11_sizes.out bt_31)
    replace Ot_11_bans := Lib.hid (own_below Ot_11_bans.out bt_31)
    replace Ot_12a := Lib.hid (own_below Ot_12a.out bt_31)
    replace Ot_19_sizes := Lib.hid (own_below Ot_19_sizes.out bt_31)
    replace Ot_19_bans := Lib.hid (own_below Ot_19_bans.out bt_31)
    replace Ot_23a := Lib.hid (own_below Ot_23a.out bt_31)
    clear bt_31
    cases t_31 with
    | false =>
      replace H := let_hid H
      obtain ⟨t_32, ht_32, H⟩ := H
      obtain rfl : t_32 = true := ht_32.symm
      replace H := join_hid H
      replace H := ite_t H
      replace H := app_hid H
      replace H := ite_t H
      obtain rfl := ret_hid H
      go_wp2_with fail
      go_ret
      exact ⟨rfl, HBwt_31.out⟩
    | true =>
      replace H := let_hid H
      obtain ⟨t_32, ht_32, H⟩ := H
      obtain rfl : t_32 = false := ht_32.symm
      replace H := join_hid H
      replace H := ite_f H
      replace H := let_hid H
      obtain ⟨t_36, ht_36, H⟩ := H
      replace H := app_hid H
      cases t_36 with
      | false =>
        replace H := ite_f H
        go_wp2_with fail
        have bd10 : Below wt_31.heap.size wt_31 wt_31.drew := (Below.refl _ _).drew
        have HBwt_31.drew := Lib.hid (Below.step HBwt_31.out bd10)
        replace kaT_0_0__190 := cell_below bd10 kaT_0_0__190
        replace kaT_0_1__191 := cell_below bd10 kaT_0_1__191
        replace kx0_20_0 := cell_below bd10 kx0_20_0
        replace kx0_20_1 := cell_below bd10 kx0_20_1
        replace Ot_11_sizes := Lib.hid (own_below Ot_11_sizes.out bd10)
        replace Ot_11_bans := Lib.hid (own_below Ot_11_bans.out bd10)
        replace Ot_12a := Lib.hid (own_below Ot_12a.out bd10)
        replace Ot_19_sizes := Lib.hid (own_below Ot_19_sizes.out bd10)
        replace Ot_19_bans := Lib.hid (own_below Ot_19_bans.out bd10)
        replace Ot_23a := Lib.hid (own_below Ot_23a.out bd10)
        clear bd10
        replace H := bind_hid H
        obtain ⟨t_41, qt_41, H⟩ := H
        obtain ⟨t_41_sizes, t_41_bans⟩ := t_41
        replace H := unKindTable_hid H
        replace H := bind_hid H
        obtain ⟨t_42, qt_42, H⟩ := H
        cases t_42 with
        | false =>
          replace H := let_hid H
          obtain ⟨t_43, ht_43, H⟩ := H
          obtain rfl : t_43 = true := ht_43.symm
          go_region_held3 (fun w' => w'.cell? ⟨w.heap.size, 0, none⟩ = some (.slice A0_0 aT_sizes.length c0_0) ∧ w'.cell? ⟨w.heap.size, 1, none⟩ = some (.slice A0_1 aT_bans.length c0_1) ∧ w'.cell? ⟨wt_19.heap.size, 0, none⟩ = some (.slice At_19_sizes t_19_sizes.length ct_19_sizes) ∧ w'.cell? ⟨wt_19.heap.size, 1, none⟩ = some (.slice At_19_bans t_19_bans.length ct_19_bans)) (first | exact ⟨kaT_0_0__190, kaT_0_1__191, kx0_20_0, kx0_20_1⟩)
              (first
                | (go_at_call 15
                   refine (Go.Proofs.Ytekacbjnpeglhaa.GlToKindTable.C (aT_sizes) (aT_bans) A0_0 c0_0 A0_1 c0_1 _   (Lib.hid (Cells.below M0_0.out HBwt_31.drew.out)) N0_0 (Lib.hid (Cells.below M0_1.out HBwt_31.drew.out)) N0_1 qt_41).mono ?_
                   rintro e_t_41 wt_41 ⟨At_41_sizes, ct_41_sizes, At_41_bans, ct_41_bans, rfl, ot_41_sizes, ot_41_bans, d0_1, bt_41⟩
                   have Dt_41_sizes_t_11_sizes := Lib.hid (apart_call ot_41_sizes Ot_11_sizes.out)
                   have Dt_41_sizes_t_11_bans := Lib.hid (apart_call ot_41_sizes Ot_11_bans.out)
                   have Dt_41_sizes_t_12a := Lib.hid (apart_call ot_41_sizes Ot_12a.out)
                   have Dt_41_sizes_t_19_sizes := Lib.hid (apart_call ot_41_sizes Ot_19_sizes.out)
                   have Dt_41_sizes_t_19_bans := Lib.hid (apart_call ot_41_sizes Ot_19_bans.out)
                   have Dt_41_sizes_t_23a := Lib.hid (apart_call ot_41_sizes Ot_23a.out)
                   have Dt_41_sizes_aT_0 := Lib.hid (apart_callbox ot_41_sizes kaT_0_0__190)
                   have Dt_41_sizes_x0_20 := Lib.hid (apart_callbox ot_41_sizes kx0_20_0)
                   have Dt_41_bans_t_11_sizes := Lib.hid (apart_call ot_41_bans Ot_11_sizes.out)
                   have Dt_41_bans_t_11_bans := Lib.hid (apart_call ot_41_bans Ot_11_bans.out)
                   have Dt_41_bans_t_12a := Lib.hid (apart_call ot_41_bans Ot_12a.out)
                   have Dt_41_bans_t_19_sizes := Lib.hid (apart_call ot_41_bans Ot_19_sizes.out)
                   have Dt_41_bans_t_19_bans := Lib.hid (apart_call ot_41_bans Ot_19_bans.out)
                   have Dt_41_bans_t_23a := Lib.hid (apart_call ot_41_bans Ot_23a.out)
                   have Dt_41_bans_aT_0 := Lib.hid (apart_callbox ot_41_bans kaT_0_0__190)
                   have Dt_41_bans_x0_20 := Lib.hid (apart_callbox ot_41_bans kx0_20_0)
                   have Dt_41_sizes_t_41_bans := Lib.hid d0_1
                   have Ot_41_sizes := Lib.hid (own_lower ot_41_sizes HBwt_31.drew.out.size)
                   clear ot_41_sizes
                   have Ot_41_bans := Lib.hid (own_lower ot_41_bans HBwt_31.drew.out.size)
                   clear ot_41_bans
                   have HBwt_41 := Lib.hid (Below.step HBwt_31.drew.out bt_41)
                   replace kaT_0_0__190 := cell_below bt_41 kaT_0_0__190
                   replace kaT_0_1__191 := cell_below bt_41 kaT_0_1__191
                   replace kx0_20_0 := cell_below bt_41 kx0_20_0
                   replace kx0_20_1 := cell_below bt_41 kx0_20_1
                   replace Ot_11_sizes := Lib.hid (own_below Ot_11_sizes.out bt_41)
                   replace Ot_11_bans := Lib.hid (own_below Ot_11_bans.out bt_41)
                   replace Ot_12a := Lib.hid (own_below Ot_12a.out bt_41)
                   replace Ot_19_sizes := Lib.hid (own_below Ot_19_sizes.out bt_41)
                   replace Ot_19_bans := Lib.hid (own_below Ot_19_bans.out bt_41)
                   replace Ot_23a := Lib.hid (own_below Ot_23a.out bt_41)
                   clear bt_41
                   clear qt_41)
                | (go_at_call 17
                   refine (Go.Proofs.Ytekacbjnpeglhaa.GlEqKindTable.C (t_19_sizes) (t_19_bans) (t_41_sizes) (t_41_bans) At_19_sizes ct_19_sizes At_19_bans ct_19_bans At_41_sizes ct_41_sizes At_41_bans ct_41_bans _   (Lib.hid (own_cells Ot_19_sizes.out)) (Lib.hid (own_max Ot_19_sizes.out)) (Lib.hid (own_cells Ot_19_bans.out)) (Lib.hid (own_max Ot_19_bans.out)) (Lib.hid (own_cells Ot_41_sizes.out)) (Lib.hid (own_max Ot_41_sizes.out)) (Lib.hid (own_cells Ot_41_bans.out)) (Lib.hid (own_max Ot_41_bans.out)) qt_42).mono ?_
                   rintro e_t_42 wt_42 ⟨rfl, bt_42⟩
                   have HBwt_42 := Lib.hid (Below.step HBwt_41.out bt_42)
                   replace kaT_0_0__190 := cell_below bt_42 kaT_0_0__190
                   replace kaT_0_1__191 := cell_below bt_42 kaT_0_1__191
                   replace kx0_20_0 := cell_below bt_42 kx0_20_0
                   replace kx0_20_1 := cell_below bt_42 kx0_20_1
                   replace Ot_11_sizes := Lib.hid (own_below Ot_11_sizes.out bt_42)
                   replace Ot_11_bans := Lib.hid (own_below Ot_11_bans.out bt_42)
                   replace Ot_12a := Lib.hid (own_below Ot_12a.out bt_42)
                   replace Ot_19_sizes := Lib.hid (own_below Ot_19_sizes.out bt_42)
                   replace Ot_19_bans := Lib.hid (own_below Ot_19_bans.out bt_42)
                   replace Ot_23a := Lib.hid (own_below Ot_23a.out bt_42)
                   replace Ot_41_sizes := Lib.hid (own_below Ot_41_sizes.out bt_42)
                   replace Ot_41_bans := Lib.hid (own_below Ot_41_bans.out bt_42)
                   clear bt_42
                   clear qt_42))
          replace H := ite_t H
          obtain rfl := ret_hid H
          go_wp2_with fail
          go_ret
          exact ⟨rfl, HBwt_42.out⟩
        | true =>
          replace H := let_hid H
          obtain ⟨t_43, ht_43, H⟩ := H
          obtain rfl : t_43 = false := ht_43.symm
          go_region_held3 (fun w' => w'.cell? ⟨w.heap.size, 0, none⟩ = some (.slice A0_0 aT_sizes.length c0_0) ∧ w'.cell? ⟨w.heap.size, 1, none⟩ = some (.slice A0_1 aT_bans.length c0_1) ∧ w'.cell? ⟨wt_19.heap.size, 0, none⟩ = some (.slice At_19_sizes t_19_sizes.length ct_19_sizes) ∧ w'.cell? ⟨wt_19.heap.size, 1, none⟩ = some (.slice At_19_bans t_19_bans.length ct_19_bans)) (first | exact ⟨kaT_0_0__190, kaT_0_1__191, kx0_20_0, kx0_20_1⟩)
              (first
                | (go_at_call 15
                   refine (Go.Proofs.Ytekacbjnpeglhaa.GlToKindTable.C (aT_sizes) (aT_bans) A0_0 c0_0 A0_1 c0_1 _   (Lib.hid (Cells.below M0_0.out HBwt_31.drew.out)) N0_0 (Lib.hid (Cells.below M0_1.out HBwt_31.drew.out)) N0_1 qt_41).mono ?_
                   rintro e_t_41 wt_41 ⟨At_41_sizes, ct_41_sizes, At_41_bans, ct_41_bans, rfl, ot_41_sizes, ot_41_bans, d0_1, bt_41⟩
                   have Dt_41_sizes_t_11_sizes := Lib.hid (apart_call ot_41_sizes Ot_11_sizes.out)
                   have Dt_41_sizes_t_11_bans := Lib.hid (apart_call ot_41_sizes Ot_11_bans.out)
                   have Dt_41_sizes_t_12a := Lib.hid (apart_call ot_41_sizes Ot_12a.out)
                   have Dt_41_sizes_t_19_sizes := Lib.hid (apart_call ot_41_sizes Ot_19_sizes.out)
                   have Dt_41_sizes_t_19_bans := Lib.hid (apart_call ot_41_sizes Ot_19_bans.out)
                   have Dt_41_sizes_t_23a := Lib.hid (apart_call ot_41_sizes Ot_23a.out)
                   have Dt_41_sizes_aT_0 := Lib.hid (apart_callbox ot_41_sizes kaT_0_0__190)
                   have Dt_41_sizes_x0_20 := Lib.hid (apart_callbox ot_41_sizes kx0_20_0)
                   have Dt_41_bans_t_11_sizes := Lib.hid (apart_call ot_41_bans Ot_11_sizes.out)
                   have Dt_41_bans_t_11_bans := Lib.hid (apart_call ot_41_bans Ot_11_bans.out)
                   have Dt_41_bans_t_12a := Lib.hid (apart_call ot_41_bans Ot_12a.out)
                   have Dt_41_bans_t_19_sizes := Lib.hid (apart_call ot_41_bans Ot_19_sizes.out)
                   have Dt_41_bans_t_19_bans := Lib.hid (apart_call ot_41_bans Ot_19_bans.out)
                   have Dt_41_bans_t_23a := Lib.hid (apart_call ot_41_bans Ot_23a.out)
                   have Dt_41_bans_aT_0 := Lib.hid (apart_callbox ot_41_bans kaT_0_0__190)
                   have Dt_41_bans_x0_20 := Lib.hid (apart_callbox ot_41_bans kx0_20_0)
                   have Dt_41_sizes_t_41_bans := Lib.hid d0_1
                   have Ot_41_sizes := Lib.hid (own_lower ot_41_sizes HBwt_31.drew.out.size)
                   clear ot_41_sizes
                   have Ot_41_bans := Lib.hid (own_lower ot_41_bans HBwt_31.drew.out.size)
                   clear ot_41_bans
                   have HBwt_41 := Lib.hid (Below.step HBwt_31.drew.out bt_41)
                   replace kaT_0_0__190 := cell_below bt_41 kaT_0_0__190
                   replace kaT_0_1__191 := cell_below bt_41 kaT_0_1__191
                   replace kx0_20_0 := cell_below bt_41 kx0_20_0
                   replace kx0_20_1 := cell_below bt_41 kx0_20_1
                   replace Ot_11_sizes := Lib.hid (own_below Ot_11_sizes.out bt_41)
                   replace Ot_11_bans := Lib.hid (own_below Ot_11_bans.out bt_41)
                   replace Ot_12a := Lib.hid (own_below Ot_12a.out bt_41)
                   replace Ot_19_sizes := Lib.hid (own_below Ot_19_sizes.out bt_41)
                   replace Ot_19_bans := Lib.hid (own_below Ot_19_bans.out bt_41)
                   replace Ot_23a := Lib.hid (own_below Ot_23a.out bt_41)
                   clear bt_41
                   clear qt_41)
                | (go_at_call 17
                   refine (Go.Proofs.Ytekacbjnpeglhaa.GlEqKindTable.C (t_19_sizes) (t_19_bans) (t_41_sizes) (t_41_bans) At_19_sizes ct_19_sizes At_19_bans ct_19_bans At_41_sizes ct_41_sizes At_41_bans ct_41_bans _   (Lib.hid (own_cells Ot_19_sizes.out)) (Lib.hid (own_max Ot_19_sizes.out)) (Lib.hid (own_cells Ot_19_bans.out)) (Lib.hid (own_max Ot_19_bans.out)) (Lib.hid (own_cells Ot_41_sizes.out)) (Lib.hid (own_max Ot_41_sizes.out)) (Lib.hid (own_cells Ot_41_bans.out)) (Lib.hid (own_max Ot_41_bans.out)) qt_42).mono ?_
                   rintro e_t_42 wt_42 ⟨rfl, bt_42⟩
                   have HBwt_42 := Lib.hid (Below.step HBwt_41.out bt_42)
                   replace kaT_0_0__190 := cell_below bt_42 kaT_0_0__190
                   replace kaT_0_1__191 := cell_below bt_42 kaT_0_1__191
                   replace kx0_20_0 := cell_below bt_42 kx0_20_0
                   replace kx0_20_1 := cell_below bt_42 kx0_20_1
                   replace Ot_11_sizes := Lib.hid (own_below Ot_11_sizes.out bt_42)
                   replace Ot_11_bans := Lib.hid (own_below Ot_11_bans.out bt_42)
                   replace Ot_12a := Lib.hid (own_below Ot_12a.out bt_42)
                   replace Ot_19_sizes := Lib.hid (own_below Ot_19_sizes.out bt_42)
                   replace Ot_19_bans := Lib.hid (own_below Ot_19_bans.out bt_42)
                   replace Ot_23a := Lib.hid (own_below Ot_23a.out bt_42)
                   replace Ot_41_sizes := Lib.hid (own_below Ot_41_sizes.out bt_42)
                   replace Ot_41_bans := Lib.hid (own_below Ot_41_bans.out bt_42)
                   clear bt_42
                   clear qt_42))
          replace H := ite_f H
          replace H := bind3_hid H
          obtain ⟨t_48, lt_48, mt_48, qt_48, H⟩ := H
          go_wp2_with fail
          go_at_call 26
          refine (Go.Proofs.Ytekacbjnpeglhaa.GlMarkKindTable.C (t_19_sizes) (t_19_bans) (1) At_19_sizes ct_19_sizes At_19_bans ct_19_bans w.heap.size _ Ot_19_sizes (Lib.hid (own_max Ot_19_sizes.out)) Ot_19_bans (Lib.hid (own_max Ot_19_bans.out)) (Lib.hid Dt_19_sizes_t_19_bans.out) qt_48).mono ?_
          rintro e_t_48 wt_48 ⟨rfl, ot_48, nt_48, pt_48, rt_48, gt_48⟩
          have Pt_48 := Lib.hid ot_48
          have Rt_48 := Lib.hid pt_48
          have Gt_48 := Lib.hid gt_48
          replace nt_48 := Lib.hid nt_48
          replace rt_48 := Lib.hid rt_48
          clear ot_48 pt_48 gt_48
          have HBwt_48 := Lib.hid (below2 HBwt_42.out Gt_48.out HBwt_42.out.size (own_ge2 Ot_19_sizes.out) (own_ge2 Ot_19_bans.out))
          replace kaT_0_0__190 := cell_other2 kaT_0_0__190 Gt_48.out Dt_19_sizes_aT_0.out Dt_19_bans_aT_0.out
          replace kaT_0_1__191 := cell_other2 kaT_0_1__191 Gt_48.out Dt_19_sizes_aT_0.out Dt_19_bans_aT_0.out
          replace kx0_20_0 := cell_other2 kx0_20_0 Gt_48.out (Apart.symm Dx0_20_t_19_sizes.out) (Apart.symm Dx0_20_t_19_bans.out)
          replace kx0_20_1 := cell_other2 kx0_20_1 Gt_48.out (Apart.symm Dx0_20_t_19_sizes.out) (Apart.symm Dx0_20_t_19_bans.out)
          replace Ot_11_sizes := Lib.hid (own_other2 Ot_11_sizes.out Gt_48.out Dt_19_sizes_t_11_sizes.out Dt_19_bans_t_11_sizes.out)
          replace Ot_11_bans := Lib.hid (own_other2 Ot_11_bans.out Gt_48.out Dt_19_sizes_t_11_bans.out Dt_19_bans_t_11_bans.out)
          replace Ot_12a := Lib.hid (own_other2 Ot_12a.out Gt_48.out Dt_19_sizes_t_12a.out Dt_19_bans_t_12a.out)
          replace Ot_23a := Lib.hid (own_other2 Ot_23a.out Gt_48.out (Apart.symm Dt_23a_t_19_sizes.out) (Apart.symm Dt_23a_t_19_bans.out))
          replace Ot_41_sizes := Lib.hid (own_other2 Ot_41_sizes.out Gt_48.out (Apart.symm Dt_41_sizes_t_19_sizes.out) (Apart.symm Dt_41_sizes_t_19_bans.out))
          replace Ot_41_bans := Lib.hid (own_other2 Ot_41_bans.out Gt_48.out (Apart.symm Dt_41_bans_t_19_sizes.out) (Apart.symm Dt_41_bans_t_19_bans.out))
          clear Ot_19_sizes Ot_19_bans Gt_48
          replace H := let_hid H
          obtain ⟨t_51, ht_51, H⟩ := H
          replace H := join_hid H
          cases t_51 with
          | false =>
            replace H := ite_f H
            replace H := bind_hid H
            obtain ⟨t_55, qt_55, H⟩ := H
            go_wp2_with fail
            go_at_call 21
            refine (Go.Proofs.Ytekacbjnpeglhaa.GlEqIntS.C (t_23a) (t_12a) At_23a ct_23a At_12a ct_12a _   (Lib.hid (own_cells Ot_23a.out)) (Lib.hid (own_max Ot_23a.out)) (Lib.hid (own_cells Ot_12a.out)) (Lib.hid (own_max Ot_12a.out)) qt_55).mono ?_
            rintro e_t_55 wt_55 ⟨rfl, bt_55⟩
            have HBwt_55 := Lib.hid (Below.step HBwt_48.out bt_55)
            replace kaT_0_0__190 := cell_below bt_55 kaT_0_0__190
            replace kaT_0_1__191 := cell_below bt_55 kaT_0_1__191
            replace kx0_20_0 := cell_below bt_55 kx0_20_0
            replace kx0_20_1 := cell_below bt_55 kx0_20_1
            replace Ot_11_sizes := Lib.hid (own_below Ot_11_sizes.out bt_55)
            replace Ot_11_bans := Lib.hid (own_below Ot_11_bans.out bt_55)
            replace Ot_12a := Lib.hid (own_below Ot_12a.out bt_55)
            replace Pt_48 := Lib.hid (own_below Pt_48.out bt_55)
            replace Rt_48 := Lib.hid (own_below Rt_48.out bt_55)
            replace Ot_23a := Lib.hid (own_below Ot_23a.out bt_55)
            replace Ot_41_sizes := Lib.hid (own_below Ot_41_sizes.out bt_55)
            replace Ot_41_bans := Lib.hid (own_below Ot_41_bans.out bt_55)
            clear bt_55
            cases t_55 with
            | false =>
              replace H := let_hid H
              obtain ⟨t_56, ht_56, H⟩ := H
              obtain rfl : t_56 = true := ht_56.symm
              replace H := app_hid H
              replace H := join_hid H
              replace H := ite_t H
              replace H := app_hid H
              replace H := ite_t H
              obtain rfl := ret_hid H
              go_wp2_with fail
              go_ret
              exact ⟨rfl, HBwt_55.out⟩
            | true =>
              replace H := let_hid H
              obtain ⟨t_56, ht_56, H⟩ := H
              obtain rfl : t_56 = false := ht_56.symm
              replace H := app_hid H
              replace H := join_hid H
              replace H := ite_f H
              replace H := let_hid H
              obtain ⟨t_61, ht_61, H⟩ := H
              obtain rfl := ht_36.symm.trans ht_61
              replace H := app_hid H
              replace H := ite_f H
              replace H := bind2_hid H
              obtain ⟨t_67, lt_67, qt_67, H⟩ := H
              go_wp2_with fail
              go_at_call 27
              refine (Go.Proofs.Ytekacbjnpeglhaa.GlMarkIntS.C (t_23a) (1) At_23a ct_23a w.heap.size _   Ot_23a (Lib.hid (own_max Ot_23a.out))   qt_67).mono ?_
              rintro e_t_67 wt_67 ⟨rfl, ot_67, nt_67, gt_67⟩
              have Pt_67 := Lib.hid ot_67
              have Gt_67 := Lib.hid gt_67
              replace nt_67 := Lib.hid nt_67
              clear ot_67 gt_67
              have HBwt_67 := Lib.hid (HBwt_55.out.grown Gt_67.out HBwt_55.out.size (fun q hq => (Ot_23a.out.lt q hq).1))
              replace kaT_0_0__190 := cell_other kaT_0_0__190 Gt_67.out Dt_23a_aT_0.out
              replace kaT_0_1__191 := cell_other kaT_0_1__191 Gt_67.out Dt_23a_aT_0.out
              replace kx0_20_0 := cell_other kx0_20_0 Gt_67.out Dt_23a_x0_20.out
              replace kx0_20_1 := cell_other kx0_20_1 Gt_67.out Dt_23a_x0_20.out
              replace Ot_11_sizes := Lib.hid (own_other Ot_11_sizes.out Gt_67.out Dt_23a_t_11_sizes.out)
              replace Ot_11_bans := Lib.hid (own_other Ot_11_bans.out Gt_67.out Dt_23a_t_11_bans.out)
              replace Ot_12a := Lib.hid (own_other Ot_12a.out Gt_67.out Dt_23a_t_12a.out)
              replace Pt_48 := Lib.hid (own_other Pt_48.out Gt_67.out Dt_23a_t_19_sizes.out)
              replace Rt_48 := Lib.hid (own_other Rt_48.out Gt_67.out Dt_23a_t_19_bans.out)
              replace Ot_41_sizes := Lib.hid (own_other Ot_41_sizes.out Gt_67.out (Apart.symm Dt_41_sizes_t_23a.out))
              replace Ot_41_bans := Lib.hid (own_other Ot_41_bans.out Gt_67.out (Apart.symm Dt_41_bans_t_23a.out))
              clear Ot_23a Gt_67
              replace H := bind_hid H
              obtain ⟨t_72, qt_72, H⟩ := H
              go_wp2_with fail
              have hc_ := nt_67.out
              have hv_ : (Value.slice At_23a t_23a.length ct_23a : Value) = Value.slice At_23a lt_67.length ct_23a := by rw [hc_]
              try rw [hv_]
              replace Pt_67 := Lib.hid (own_len hc_ Pt_67.out)
              clear hc_ hv_
              go_wp2_with fail
              go_at_call 28
              refine (Go.Proofs.Ytekacbjnpeglhaa.GlHeldIntS.C (lt_67) (1) At_23a ct_23a _   (Lib.hid (own_cells Pt_67.out)) (Lib.hid (own_max Pt_67.out)) qt_72).mono ?_
              rintro e_t_72 wt_72 ⟨rfl, bt_72⟩
              have HBwt_72 := Lib.hid (Below.step HBwt_67.out bt_72)
              replace kaT_0_0__190 := cell_below bt_72 kaT_0_0__190
              replace kaT_0_1__191 := cell_below bt_72 kaT_0_1__191
              replace kx0_20_0 := cell_below bt_72 kx0_20_0
              replace kx0_20_1 := cell_below bt_72 kx0_20_1
              replace Ot_11_sizes := Lib.hid (own_below Ot_11_sizes.out bt_72)
              replace Ot_11_bans := Lib.hid (own_below Ot_11_bans.out bt_72)
              replace Ot_12a := Lib.hid (own_below Ot_12a.out bt_72)
              replace Pt_48 := Lib.hid (own_below Pt_48.out bt_72)
              replace Rt_48 := Lib.hid (own_below Rt_48.out bt_72)
              replace Pt_67 := Lib.hid (own_below Pt_67.out bt_72)
              replace Ot_41_sizes := Lib.hid (own_below Ot_41_sizes.out bt_72)
              replace Ot_41_bans := Lib.hid (own_below Ot_41_bans.out bt_72)
              clear bt_72
              replace H := let_hid H
              obtain ⟨t_75, ht_75, H⟩ := H
              cases t_75 with
              | false =>
                replace H := ite_f H
                replace H := let_hid H
                obtain ⟨t_79, ht_79, H⟩ := H
                cases t_79 with
                | false =>
                  replace H := ite_f H
                  replace H := bind_hid H
                  obtain ⟨t_82, qt_82, H⟩ := H
                  obtain ⟨t_82_sizes, t_82_bans⟩ := t_82
                  replace H := unKindTable_hid H
                  go_wp2_with fail
                  go_at_call 15
                  refine (Go.Proofs.Ytekacbjnpeglhaa.GlToKindTable.C (aT_sizes) (aT_bans) A0_0 c0_0 A0_1 c0_1 _   (Lib.hid (Cells.below M0_0.out HBwt_72.out)) N0_0 (Lib.hid (Cells.below M0_1.out HBwt_72.out)) N0_1 qt_82).mono ?_
                  rintro e_t_82 wt_82 ⟨At_82_sizes, ct_82_sizes, At_82_bans, ct_82_bans, rfl, ot_82_sizes, ot_82_bans, d0_1, bt_82⟩
                  have Dt_82_sizes_t_11_sizes := Lib.hid (apart_call ot_82_sizes Ot_11_sizes.out)
                  have Dt_82_sizes_t_11_bans := Lib.hid (apart_call ot_82_sizes Ot_11_bans.out)
                  have Dt_82_sizes_t_12a := Lib.hid (apart_call ot_82_sizes Ot_12a.out)
                  have Dt_82_sizes_t_19_sizes := Lib.hid (apart_call ot_82_sizes Pt_48.out)
                  have Dt_82_sizes_t_19_bans := Lib.hid (apart_call ot_82_sizes Rt_48.out)
                  have Dt_82_sizes_t_23a := Lib.hid (apart_call ot_82_sizes Pt_67.out)
                  have Dt_82_sizes_t_41_sizes := Lib.hid (apart_call ot_82_sizes Ot_41_sizes.out)
                  have Dt_82_sizes_t_41_bans := Lib.hid (apart_call ot_82_sizes Ot_41_bans.out)
                  have Dt_82_sizes_aT_0 := Lib.hid (apart_callbox ot_82_sizes kaT_0_0__190)
                  have Dt_82_sizes_x0_20 := Lib.hid (apart_callbox ot_82_sizes kx0_20_0)
                  have Dt_82_bans_t_11_sizes := Lib.hid (apart_call ot_82_bans Ot_11_sizes.out)
                  have Dt_82_bans_t_11_bans := Lib.hid (apart_call ot_82_bans Ot_11_bans.out)
                  have Dt_82_bans_t_12a := Lib.hid (apart_call ot_82_bans Ot_12a.out)
                  have Dt_82_bans_t_19_sizes := Lib.hid (apart_call ot_82_bans Pt_48.out)
                  have Dt_82_bans_t_19_bans := Lib.hid (apart_call ot_82_bans Rt_48.out)
                  have Dt_82_bans_t_23a := Lib.hid (apart_call ot_82_bans Pt_67.out)
                  have Dt_82_bans_t_41_sizes := Lib.hid (apart_call ot_82_bans Ot_41_sizes.out)
                  have Dt_82_bans_t_41_bans := Lib.hid (apart_call ot_82_bans Ot_41_bans.out)
                  have Dt_82_bans_aT_0 := Lib.hid (apart_callbox ot_82_bans kaT_0_0__190)
                  have Dt_82_bans_x0_20 := Lib.hid (apart_callbox ot_82_bans kx0_20_0)
                  have Dt_82_sizes_t_82_bans := Lib.hid d0_1
                  have Ot_82_sizes := Lib.hid (own_lower ot_82_sizes HBwt_72.out.size)
                  clear ot_82_sizes
                  have Ot_82_bans := Lib.hid (own_lower ot_82_bans HBwt_72.out.size)
                  clear ot_82_bans
                  have HBwt_82 := Lib.hid (Below.step HBwt_72.out bt_82)
                  replace kaT_0_0__190 := cell_below bt_82 kaT_0_0__190
                  replace kaT_0_1__191 := cell_below bt_82 kaT_0_1__191
                  replace kx0_20_0 := cell_below bt_82 kx0_20_0
                  replace kx0_20_1 := cell_below bt_82 kx0_20_1
                  replace Ot_11_sizes := Lib.hid (own_below Ot_11_sizes.out bt_82)
                  replace Ot_11_bans := Lib.hid (own_below Ot_11_bans.out bt_82)
                  replace Ot_12a := Lib.hid (own_below Ot_12a.out bt_82)
                  replace Pt_48 := Lib.hid (own_below Pt_48.out bt_82)
                  replace Rt_48 := Lib.hid (own_below Rt_48.out bt_82)
                  replace Pt_67 := Lib.hid (own_below Pt_67.out bt_82)
                  replace Ot_41_sizes := Lib.hid (own_below Ot_41_sizes.out bt_82)
                  replace Ot_41_bans := Lib.hid (own_below Ot_41_bans.out bt_82)
                  clear bt_82
                  replace H := bind2_hid H
                  obtain ⟨t_83a, t_83b, qt_83, H⟩ := H
                  go_wp2_with fail
                  go_at_call 25
                  refine (Go.Proofs.Ytekacbjnpeglhaa.GiFirstKind.C fuel (t_82_sizes) (t_82_bans) At_82_sizes ct_82_sizes At_82_bans ct_82_bans _   (Lib.hid (own_cells Ot_82_sizes.out)) (Lib.hid (own_max Ot_82_sizes.out)) (Lib.hid (own_cells Ot_82_bans.out)) (Lib.hid (own_max Ot_82_bans.out)) qt_83).mono ?_
                  rintro e_t_83 wt_83 ⟨At_83a, ct_83a, rfl, ot_83a, bt_83⟩
                  have Dt_83a_t_11_sizes := Lib.hid (apart_call ot_83a Ot_11_sizes.out)
                  have Dt_83a_t_11_bans := Lib.hid (apart_call ot_83a Ot_11_bans.out)
                  have Dt_83a_t_12a := Lib.hid (apart_call ot_83a Ot_12a.out)
                  have Dt_83a_t_19_sizes := Lib.hid (apart_call ot_83a Pt_48.out)
                  have Dt_83a_t_19_bans := Lib.hid (apart_call ot_83a Rt_48.out)
                  have Dt_83a_t_23a := Lib.hid (apart_call ot_83a Pt_67.out)
                  have Dt_83a_t_41_sizes := Lib.hid (apart_call ot_83a Ot_41_sizes.out)
                  have Dt_83a_t_41_bans := Lib.hid (apart_call ot_83a Ot_41_bans.out)
                  have Dt_83a_t_82_sizes := Lib.hid (apart_call ot_83a Ot_82_sizes.out)
                  have Dt_83a_t_82_bans := Lib.hid (apart_call ot_83a Ot_82_bans.out)
                  have Dt_83a_aT_0 := Lib.hid (apart_callbox ot_83a kaT_0_0__190)
                  have Dt_83a_x0_20 := Lib.hid (apart_callbox ot_83a kx0_20_0)
                  have Ot_83a := Lib.hid (own_lower ot_83a HBwt_82.out.size)
                  clear ot_83a
                  have HBwt_83 := Lib.hid (Below.step HBwt_82.out bt_83)
                  replace kaT_0_0__190 := cell_below bt_83 kaT_0_0__190
                  replace kaT_0_1__191 := cell_below bt_83 kaT_0_1__191
                  replace kx0_20_0 := cell_below bt_83 kx0_20_0
                  replace kx0_20_1 := cell_below bt_83 kx0_20_1
                  replace Ot_11_sizes := Lib.hid (own_below Ot_11_sizes.out bt_83)
                  replace Ot_11_bans := Lib.hid (own_below Ot_11_bans.out bt_83)
                  replace Ot_12a := Lib.hid (own_below Ot_12a.out bt_83)
                  replace Pt_48 := Lib.hid (own_below Pt_48.out bt_83)
                  replace Rt_48 := Lib.hid (own_below Rt_48.out bt_83)
                  replace Pt_67 := Lib.hid (own_below Pt_67.out bt_83)
                  replace Ot_41_sizes := Lib.hid (own_below Ot_41_sizes.out bt_83)
                  replace Ot_41_bans := Lib.hid (own_below Ot_41_bans.out bt_83)
                  replace Ot_82_sizes := Lib.hid (own_below Ot_82_sizes.out bt_83)
                  replace Ot_82_bans := Lib.hid (own_below Ot_82_bans.out bt_83)
                  clear bt_83
                  replace H := bind_hid H
                  obtain ⟨t_91, qt_91, H⟩ := H
                  go_wp2_with fail
                  go_at_call 21
                  refine (Go.Proofs.Ytekacbjnpeglhaa.GlEqIntS.C (t_83a) (t_12a) At_83a ct_83a At_12a ct_12a _   (Lib.hid (own_cells Ot_83a.out)) (Lib.hid (own_max Ot_83a.out)) (Lib.hid (own_cells Ot_12a.out)) (Lib.hid (own_max Ot_12a.out)) qt_91).mono ?_
                  rintro e_t_91 wt_91 ⟨rfl, bt_91⟩
                  have HBwt_91 := Lib.hid (Below.step HBwt_83.out bt_91)
                  replace kaT_0_0__190 := cell_below bt_91 kaT_0_0__190
                  replace kaT_0_1__191 := cell_below bt_91 kaT_0_1__191
                  replace kx0_20_0 := cell_below bt_91 kx0_20_0
                  replace kx0_20_1 := cell_below bt_91 kx0_20_1
                  replace Ot_11_sizes := Lib.hid (own_below Ot_11_sizes.out bt_91)
                  replace Ot_11_bans := Lib.hid (own_below Ot_11_bans.out bt_91)
                  replace Ot_12a := Lib.hid (own_below Ot_12a.out bt_91)
                  replace Pt_48 := Lib.hid (own_below Pt_48.out bt_91)
                  replace Rt_48 := Lib.hid (own_below Rt_48.out bt_91)
                  replace Pt_67 := Lib.hid (own_below Pt_67.out bt_91)
                  replace Ot_41_sizes := Lib.hid (own_below Ot_41_sizes.out bt_91)
                  replace Ot_41_bans := Lib.hid (own_below Ot_41_bans.out bt_91)
                  replace Ot_82_sizes := Lib.hid (own_below Ot_82_sizes.out bt_91)
                  replace Ot_82_bans := Lib.hid (own_below Ot_82_bans.out bt_91)
                  replace Ot_83a := Lib.hid (own_below Ot_83a.out bt_91)
                  clear bt_91
                  cases t_91 with
                  | false =>
                    replace H := let_hid H
                    obtain ⟨t_92, ht_92, H⟩ := H
                    obtain rfl : t_92 = true := ht_92.symm
                    replace H := join_hid H
                    replace H := ite_t H
                    replace H := app_hid H
                    replace H := ite_t H
                    obtain rfl := ret_hid H
                    go_wp2_with fail
                    go_ret
                    exact ⟨rfl, HBwt_91.out⟩
                  | true =>
                    replace H := let_hid H
                    obtain ⟨t_92, ht_92, H⟩ := H
                    obtain rfl : t_92 = false := ht_92.symm
                    replace H := join_hid H
                    replace H := ite_f H
                    replace H := let_hid H
                    obtain ⟨t_96, ht_96, H⟩ := H
                    replace H := app_hid H
                    cases t_96 with
                    | false =>
                      replace H := ite_f H
                      replace H := bind_hid H
                      obtain ⟨t_102, qt_102, H⟩ := H
                      go_wp2_with fail
                      go_at_call 28
                      refine (Go.Proofs.Ytekacbjnpeglhaa.GlHeldIntS.C (lt_67) (1) At_23a ct_23a _   (Lib.hid (own_cells Pt_67.out)) (Lib.hid (own_max Pt_67.out)) qt_102).mono ?_
                      rintro e_t_102 wt_102 ⟨rfl, bt_102⟩
                      have HBwt_102 := Lib.hid (Below.step HBwt_91.out bt_102)
                      replace kaT_0_0__190 := cell_below bt_102 kaT_0_0__190
                      replace kaT_0_1__191 := cell_below bt_102 kaT_0_1__191
                      replace kx0_20_0 := cell_below bt_102 kx0_20_0
                      replace kx0_20_1 := cell_below bt_102 kx0_20_1
                      replace Ot_11_sizes := Lib.hid (own_below Ot_11_sizes.out bt_102)
                      replace Ot_11_bans := Lib.hid (own_below Ot_11_bans.out bt_102)
                      replace Ot_12a := Lib.hid (own_below Ot_12a.out bt_102)
                      replace Pt_48 := Lib.hid (own_below Pt_48.out bt_102)
                      replace Rt_48 := Lib.hid (own_below Rt_48.out bt_102)
                      replace Pt_67 := Lib.hid (own_below Pt_67.out bt_102)
                      replace Ot_41_sizes := Lib.hid (own_below Ot_41_sizes.out bt_102)
                      replace Ot_41_bans := Lib.hid (own_below Ot_41_bans.out bt_102)
                      replace Ot_82_sizes := Lib.hid (own_below Ot_82_sizes.out bt_102)
                      replace Ot_82_bans := Lib.hid (own_below Ot_82_bans.out bt_102)
                      replace Ot_83a := Lib.hid (own_below Ot_83a.out bt_102)
                      clear bt_102
                      replace H := let_hid H
                      obtain ⟨t_105, ht_105, H⟩ := H
                      cases t_105 with
                      | false =>
                        replace H := ite_f H
                        replace H := let_hid H
                        obtain ⟨t_109, ht_109, H⟩ := H
                        cases t_109 with
                        | false =>
                          replace H := ite_f H
                          obtain rfl := ret_hid H
                          go_wp2_with fail
                          go_ret
                          exact ⟨rfl, HBwt_102.out⟩
                        | true =>
                          replace H := ite_t H
                          obtain rfl := ret_hid H
                          go_wp2_with fail
                          go_ret
                          exact ⟨rfl, HBwt_102.out⟩
                      | true =>
                        replace H := ite_t H
                        obtain rfl := ret_hid H
                        go_wp2_with fail
                        go_ret
                        exact ⟨rfl, HBwt_102.out⟩
                    | true =>
                      replace H := ite_t H
                      obtain rfl := ret_hid H
                      go_wp2_with fail
                      go_ret
                      exact ⟨rfl, HBwt_91.out⟩
                | true =>
                  replace H := ite_t H
                  obtain rfl := ret_hid H
                  go_wp2_with fail
                  go_ret
                  exact ⟨rfl, HBwt_72.out⟩
              | true =>
                replace H := ite_t H
                obtain rfl := ret_hid H
                go_wp2_with fail
                go_ret
                exact ⟨rfl, HBwt_72.out⟩
          | true =>
            replace H := ite_t H
            replace H := app_hid H
            replace H := join_hid H
            replace H := ite_t H
            replace H := app_hid H
            replace H := ite_t H
            obtain rfl := ret_hid H
            go_wp2_with fail
            go_ret
            exact ⟨rfl, HBwt_48.out⟩
      | true =>
        replace H := ite_t H
        obtain rfl := ret_hid H
        go_wp2_with fail
        go_ret
        exact ⟨rfl, HBwt_31.out⟩
  | true =>
    replace H := ite_t H
    obtain rfl := ret_hid H
    go_wp2_with fail
    go_ret
    exact ⟨rfl, HBwt_5.out⟩
end Go.Proofs.Ytekacbjnpeglhaa.GlFnExactFirstKind

/- Plain words on stamps: what a stamp is, when one is valid, when a list of them is; the cells of a list of records. No condition. -/
namespace Go.Proofs.Ytekacbjnpeglhaa.PlainStamp
set_option linter.unusedVariables false

/-- a number lies in a..b -/
def inB (x a b : Int) : Bool := decide (a ≤ x ∧ x ≤ b)
theorem inB_yes {x a b : Int} (h1 : a ≤ x) (h2 : x ≤ b) : inB x a b = true := by unfold inB; exact decide_eq_true ⟨h1, h2⟩
theorem inB_of {x a b : Int} (h : inB x a b = true) : a ≤ x ∧ x ≤ b := by unfold inB at h; exact of_decide_eq_true h
theorem inB_no {x a b : Int} (h : x < a ∨ b < x) : inB x a b = false := by unfold inB; exact decide_eq_false (by omega)

structure St where
  id : Int
  face : Int
  color : Int
  year : Int
deriving DecidableEq

def St.cells (s : St) : List Value := [.int .i64 s.id, .int .i64 s.face, .int .i64 s.color, .int .i64 s.year]
def St.val (s : St) : Value := .agg #[.int .i64 s.id, .int .i64 s.face, .int .i64 s.color, .int .i64 s.year]
/-- each field fits an int -/
def St.fits (s : St) : Prop := (Lit.int .i64 s.id).wf = true ∧ (Lit.int .i64 s.face).wf = true ∧ (Lit.int .i64 s.color).wf = true ∧ (Lit.int .i64 s.year).wf = true

def okSt (s : St) : Bool := inB s.id 1 999 && inB s.face 0 9999 && inB s.color 0 99 && inB s.year 1840 2100
theorem okSt_yes {s : St} (h : okSt s = true) : (1 ≤ s.id ∧ s.id ≤ 999) ∧ (0 ≤ s.face ∧ s.face ≤ 9999) ∧ (0 ≤ s.color ∧ s.color ≤ 99) ∧ (1840 ≤ s.year ∧ s.year ≤ 2100) := by
  unfold okSt at h
  simp only [Bool.and_eq_true] at h
  exact ⟨inB_of h.1.1.1, inB_of h.1.1.2, inB_of h.1.2, inB_of h.2⟩

/-- the stamp at k is valid, and its id is above the one ahead of it -/
def okAt (l : List St) (k : Nat) : Bool :=
  match l[k]? with
  | none => true
  | some s => okSt s && (decide (k = 0) || (match l[k-1]? with | none => true | some r => decide (r.id < s.id)))
def okUp (l : List St) (k : Nat) : Bool := (List.range k).all (okAt l)
theorem okUp_zero (l : List St) : okUp l 0 = true := by simp [okUp]
theorem okUp_succ (l : List St) (k : Nat) : okUp l (k + 1) = (okUp l k && okAt l k) := by simp [okUp, List.range_succ, List.all_append]
theorem okUp_not {l : List St} {k n : Nat} (h : okAt l k = false) (hk : k < n) : okUp l n = false := by
  unfold okUp
  rw [Bool.eq_false_iff]
  intro hall
  have := List.all_eq_true.1 hall k (List.mem_range.2 hk)
  rw [h] at this; exact absurd this (by simp)
/-- a list of at most twelve valid stamps with rising ids -/
def okSts (l : List St) : Bool := decide (l.length ≤ 12) && okUp l l.length
theorem okAt_of {l : List St} {k : Nat} {s : St} (hs : l[k]? = some s) (h : okAt l k = true) : okSt s = true ∧ ∀ r, 0 < k → l[k-1]? = some r → r.id < s.id := by
  unfold okAt at h
  rw [hs] at h
  simp only [Bool.and_eq_true, Bool.or_eq_true, decide_eq_true_eq] at h
  refine ⟨h.1, fun r hk hr => ?_⟩
  rcases h.2 with h0 | h0
  · omega
  · rw [hr] at h0; simpa using h0
theorem okSts_len {l : List St} (h : okSts l = true) : l.length ≤ 12 := by unfold okSts at h; simp only [Bool.and_eq_true, decide_eq_true_eq] at h; exact h.1
theorem okSts_at {l : List St} (h : okSts l = true) {k : Nat} {s : St} (hs : l[k]? = some s) : okSt s = true ∧ ∀ r, 0 < k → l[k-1]? = some r → r.id < s.id := by
  unfold okSts at h
  simp only [Bool.and_eq_true, decide_eq_true_eq] at h
  exact okAt_of hs (List.all_eq_true.1 h.2 k (List.mem_range.2 (List.getElem?_eq_some_iff.1 hs).1))
theorem okSts_mem {l : List St} (h : okSts l = true) {s : St} (hs : s ∈ l) : okSt s = true := by
  obtain ⟨k, hk⟩ := List.getElem?_of_mem hs
  exact (okSts_at h hk).1

/-- the cells of a list of stamps, one after the other -/
def flat (l : List St) : List Value := l.flatMap St.cells
theorem flat_nil : flat [] = [] := rfl
theorem flat_cons (s : St) (l : List St) : flat (s :: l) = s.cells ++ flat l := by simp [flat]
theorem flat_len (l : List St) : (flat l).length = l.length * 4 := by
  induction l with
  | nil => rfl
  | cons s l ih => rw [flat_cons, List.length_append, ih]; simp [St.cells]; omega
theorem flat_at : ∀ (l : List St) (k : Nat) (s : St), l[k]? = some s → ∀ j, j < 4 → (flat l)[k * 4 + j]? = s.cells[j]?
  | [], k, s, h, _, _ => by simp at h
  | r :: l, 0, s, h, j, hj => by
    obtain rfl : r = s := by simpa using h
    rw [flat_cons, List.getElem?_append_left (by simp [St.cells]; omega)]; simp
  | r :: l, k + 1, s, h, j, hj => by
    rw [flat_cons, List.getElem?_append_right (by simp [St.cells]; omega), show (k + 1) * 4 + j - r.cells.length = k * 4 + j by simp [St.cells]; omega]
    exact flat_at l k s (by simpa using h) j hj
end Go.Proofs.Ytekacbjnpeglhaa.PlainStamp

/- Words for reckoning with plain functions; within and l1In. No condition. -/
namespace Go.Proofs.Ytekacbjnpeglhaa.QBase
set_option linter.unusedVariables false
set_option linter.unusedSimpArgs false
open Go.RowKit
open Go.Proofs.Ytekacbjnpeglhaa.GoP Go.Proofs.Ytekacbjnpeglhaa.PlainStamp

theorem iteK_if {ρ : Type} (c : Bool) (a b : Option ρ) : iteK c a b = if c = true then a else b := by cases c <;> rfl
theorem bind2_some {α β ρ : Type} (a : α) (b : β) (f : α → β → Option ρ) : bind2 (some (a, b)) f = f a b := rfl
theorem bind3_some {α β γ ρ : Type} (a : α) (b : β) (c : γ) (f : α → β → γ → Option ρ) : bind3 (some (a, b, c)) f = f a b c := rfl
theorem unp2_mk {α β ρ : Type} (a : α) (b : β) (f : α → β → Option ρ) : unp2 (a, b) f = f a b := rfl
theorem unp3_mk {α β γ ρ : Type} (a : α) (b : β) (c : γ) (f : α → β → γ → Option ρ) : unp3 (a, b, c) f = f a b c := rfl
theorem guardK_pos {ρ : Type} {p : Prop} [Decidable p] {a : Option ρ} (h : p) : guardK p a = a := if_pos h
theorem cut2 {α β : Type} {x : Option (α × β)} {p : α × β} (h : x = some p) : x = some (p.1, p.2) := h
theorem cut3 {α β γ : Type} {x : Option (α × β × γ)} {p : α × β × γ} (h : x = some p) : x = some (p.1, p.2.1, p.2.2) := h
theorem within_eq (n a b : Int) : GiWithin.P n a b = some (inB n a b) := by
  simp only [GiWithin.P, letK, joinK, appK, iteK_if, inB]
  by_cases h1 : a ≤ n <;> by_cases h2 : n ≤ b <;> simp [h1, h2]
theorem l1In_eq (n a b : Int) : GsL1In.P n a b = some (inB n a b) := by
  simp only [GsL1In.P, letK, joinK, appK, iteK_if, inB]
  by_cases h1 : a ≤ n <;> by_cases h2 : n ≤ b <;> simp [h1, h2]
end Go.Proofs.Ytekacbjnpeglhaa.QBase

/- Reckoning with the loops of plain functions; lists of valid records with rising ids. No condition. -/
namespace Go.Proofs.Ytekacbjnpeglhaa.QLoop
set_option linter.unusedVariables false
open Go.RowKit
open Go.Proofs.Ytekacbjnpeglhaa.GoP Go.Proofs.Ytekacbjnpeglhaa.QBase

theorem cnt_ex {σ ρ : Type} {f : Nat → σ → (σ → Option ρ) → (σ → Option ρ) → Option ρ} {fin : σ → Option ρ} {Q : ρ → Prop} {n : Nat} (I : Nat → σ → Prop)
    (step : ∀ k s nx, k < n → I k s → (∀ s', I (k + 1) s' → ∃ r, nx s' = some r ∧ Q r) → ∃ r, f k s nx fin = some r ∧ Q r) (done : ∀ s, I n s → ∃ r, fin s = some r ∧ Q r) :
    ∀ m k s, k + m = n → I k s → ∃ r, cntK f m k s fin = some r ∧ Q r := by
  intro m
  induction m with
  | zero => intro k s hk hI; obtain rfl : k = n := by omega
            exact done s hI
  | succ m ih => intro k s hk hI; exact step k s _ (by omega) hI (fun s' h' => ih (k + 1) s' (by omega) h')
theorem cnt_is {σ ρ : Type} {f : Nat → σ → (σ → Option ρ) → (σ → Option ρ) → Option ρ} {fin : σ → Option ρ} {n : Nat} (r : ρ) (I : Nat → σ → Prop)
    (step : ∀ k s nx, k < n → I k s → (∀ s', I (k + 1) s' → nx s' = some r) → f k s nx fin = some r) (done : ∀ s, I n s → fin s = some r) (s : σ) (h0 : I 0 s) : cntK f n 0 s fin = some r := by
  obtain ⟨r', h, rfl⟩ := cnt_ex (Q := fun x => x = r) I (fun k s nx hk hI hn => ⟨r, step k s nx hk hI (fun s' h' => by obtain ⟨_, h, rfl⟩ := hn s' h'; exact h), rfl⟩) (fun s h => ⟨r, done s h, rfl⟩) n 0 s (by omega) h0
  exact h
theorem at_lt {α : Type} {l : List α} {k : Nat} (h : k < l.length) : ∃ x, l[k]? = some x ∧ idx l (k : Int) = some x := ⟨l[k], List.getElem?_eq_getElem h, by rw [idx_nat, List.getElem?_eq_getElem h]⟩
theorem idx_pred {α : Type} {l : List α} {k : Nat} {x : α} (hk : 0 < k) (hb : k ≤ 9223372036854775807) (h : l[k - 1]? = some x) : idx l (IntKind.i64.wrap ((k : Int) - 1)) = some x := by
  rw [IntWalk.i64_in _ (by omega), show ((k : Int) - 1) = ((k - 1 : Nat) : Int) by omega, idx_nat, h]
theorem take_next {α : Type} {l : List α} {k : Nat} {x : α} (h : l[k]? = some x) : l.take (k + 1) = l.take k ++ [x] := by
  obtain ⟨hk, e⟩ := List.getElem?_eq_some_iff.1 h
  rw [List.take_succ_eq_append_getElem hk, e]
theorem all_next {α : Type} {p : α → Bool} {l : List α} {k : Nat} {x : α} (h : l[k]? = some x) : (l.take (k + 1)).all p = ((l.take k).all p && p x) := by
  rw [take_next h]; simp
theorem not_all {α : Type} {p : α → Bool} {l : List α} {k : Nat} {x : α} (h : l[k]? = some x) (hp : p x = false) : l.all p = false := by
  rw [Bool.eq_false_iff]
  intro ha
  have := List.all_eq_true.1 ha x (List.mem_of_getElem? h)
  rw [hp] at this; exact absurd this (by simp)
theorem wrap_in {x : Int} (h1 : -9223372036854775808 ≤ x) (h2 : x ≤ 9223372036854775807) : IntKind.i64.wrap x = x := IntWalk.i64_in _ (by omega)

/-- valid, and above the one ahead of it -/
def upAt {α : Type} (ok : α → Bool) (id : α → Int) (l : List α) (k : Nat) : Bool :=
  match l[k]? with
  | none => true
  | some s => ok s && (decide (k = 0) || (match l[k-1]? with | none => true | some r => decide (id r < id s)))
def upTo {α : Type} (ok : α → Bool) (id : α → Int) (l : List α) (k : Nat) : Bool := (List.range k).all (upAt ok id l)
theorem upTo_zero {α : Type} (ok : α → Bool) (id : α → Int) (l : List α) : upTo ok id l 0 = true := rfl
theorem upTo_succ {α : Type} (ok : α → Bool) (id : α → Int) (l : List α) (k : Nat) : upTo ok id l (k + 1) = (upTo ok id l k && upAt ok id l k) := by simp [upTo, List.range_succ, List.all_append]
theorem upTo_not {α : Type} {ok : α → Bool} {id : α → Int} {l : List α} {k n : Nat} (h : upAt ok id l k = false) (hk : k < n) : upTo ok id l n = false := by
  unfold upTo
  rw [Bool.eq_false_iff]
  intro ha
  have := List.all_eq_true.1 ha k (List.mem_range.2 hk)
  rw [h] at this; exact absurd this (by simp)
/-- a list of at most m valid records with rising ids -/
def upL {α : Type} (m : Nat) (ok : α → Bool) (id : α → Int) (l : List α) : Bool := decide (l.length ≤ m) && upTo ok id l l.length
theorem upAt_bad {α : Type} {ok : α → Bool} {id : α → Int} {l : List α} {k : Nat} {s : α} (hs : l[k]? = some s) (h : ok s = false) : upAt ok id l k = false := by unfold upAt; rw [hs]; simp [h]
theorem upAt_first {α : Type} {ok : α → Bool} {id : α → Int} {l : List α} {s : α} (hs : l[0]? = some s) (h : ok s = true) : upAt ok id l 0 = true := by unfold upAt; rw [hs]; simp [h]
theorem upAt_next {α : Type} {ok : α → Bool} {id : α → Int} {l : List α} {k : Nat} {s r : α} (hs : l[k]? = some s) (hr : l[k-1]? = some r) (hk : 0 < k) (h : ok s = true) : upAt ok id l k = decide (id r < id s) := by
  unfold upAt; rw [hs]; simp only [hr, h, Bool.true_and, decide_eq_false (show ¬ k = 0 by omega), Bool.false_or]
theorem upL_len {α : Type} {m : Nat} {ok : α → Bool} {id : α → Int} {l : List α} (h : upL m ok id l = true) : l.length ≤ m := by unfold upL at h; simp only [Bool.and_eq_true, decide_eq_true_eq] at h; exact h.1
theorem upL_ok {α : Type} {m : Nat} {ok : α → Bool} {id : α → Int} {l : List α} (h : upL m ok id l = true) {k : Nat} {s : α} (hs : l[k]? = some s) : ok s = true := by
  unfold upL at h
  simp only [Bool.and_eq_true, decide_eq_true_eq] at h
  have := List.all_eq_true.1 h.2 k (List.mem_range.2 (List.getElem?_eq_some_iff.1 hs).1)
  unfold upAt at this
  rw [hs] at this
  simp only [Bool.and_eq_true] at this
  exact this.1
theorem upL_mem {α : Type} {m : Nat} {ok : α → Bool} {id : α → Int} {l : List α} (h : upL m ok id l = true) {s : α} (hs : s ∈ l) : ok s = true := by
  obtain ⟨k, hk⟩ := List.getElem?_of_mem hs
  exact upL_ok h hk
/-- a loop that goes through a list of records and stops with 'false' at the first that is bad -/
theorem up_loop {α : Type} {ok : α → Bool} {id : α → Int} {l : List α} {R : Type} {no : R} {f : Nat → Unit → (Unit → Option R) → (Unit → Option R) → Option R} {fin : Unit → Option R}
    (step : ∀ k nx s, l[k]? = some s → (ok s = false → f k () nx fin = some no) ∧ (ok s = true → (k = 0 → f k () nx fin = nx ()) ∧ (0 < k → ∀ r, l[k-1]? = some r → (id r < id s → f k () nx fin = nx ()) ∧ (id s ≤ id r → f k () nx fin = some no)))) :
    cntK f l.length 0 () fin = if upTo ok id l l.length then fin () else some no := by
  have key : ∀ m k, k + m = l.length → upTo ok id l k = true → cntK f m k () fin = if upTo ok id l l.length then fin () else some no := by
    intro m
    induction m with
    | zero => intro k hk hu; obtain rfl : k = l.length := by omega
              rw [hu]; rfl
    | succ m ih =>
      intro k hk hu
      have hlt : k < l.length := by omega
      obtain ⟨s, hs, _⟩ := at_lt hlt
      obtain ⟨h1, h2⟩ := step k (fun s' => cntK f m (k + 1) s' fin) s hs
      show f k () _ fin = _
      cases hok : ok s with
      | false => rw [h1 hok, upTo_not (upAt_bad hs hok) hlt]; rfl
      | true =>
        obtain ⟨h3, h4⟩ := h2 hok
        by_cases hk0 : k = 0
        · rw [h3 hk0]
          subst hk0
          exact ih 1 (by omega) (by rw [upTo_succ, hu, upAt_first hs hok]; rfl)
        · obtain ⟨r, hr, _⟩ := at_lt (l := l) (k := k - 1) (by omega)
          obtain ⟨h5, h6⟩ := h4 (by omega) r hr
          by_cases hlt2 : id r < id s
          · rw [h5 hlt2]
            exact ih (k + 1) (by omega) (by rw [upTo_succ, hu, upAt_next hs hr (by omega) hok]; simpa using hlt2)
          · rw [h6 (by omega), upTo_not (by rw [upAt_next hs hr (by omega) hok]; simpa using hlt2) hlt]; rfl
  exact key l.length 0 (by omega) (upTo_zero ok id l)
end Go.Proofs.Ytekacbjnpeglhaa.QLoop

/- Loops that test each place, and loops without a count. No condition. -/
namespace Go.Proofs.Ytekacbjnpeglhaa.QAll
set_option linter.unusedVariables false
set_option linter.unusedSimpArgs false
open Go.RowKit
open Go.Proofs.Ytekacbjnpeglhaa.GoP Go.Proofs.Ytekacbjnpeglhaa.QBase Go.Proofs.Ytekacbjnpeglhaa.QLoop

/-- each number below n is good -/
def allN (n : Nat) (p : Nat → Bool) : Bool := (List.range n).all p
theorem allN_iff {n : Nat} {p : Nat → Bool} : allN n p = true ↔ ∀ i, i < n → p i = true := by unfold allN; simp
theorem allN_no {n k : Nat} {p : Nat → Bool} (hk : k < n) (h : p k = false) : allN n p = false := by
  rw [Bool.eq_false_iff]; intro ha; rw [allN_iff.1 ha k hk] at h; exact absurd h (by simp)
theorem allN_eq {n m : Nat} {p q : Nat → Bool} (h : (∀ i, i < n → p i = true) ↔ (∀ i, i < m → q i = true)) : allN n p = allN m q := by
  rw [Bool.eq_iff_iff, allN_iff, allN_iff]; exact h
theorem all_cnt {ρ : Type} {n : Nat} {p : Nat → Bool} {no : ρ} {f : Nat → Unit → (Unit → Option ρ) → (Unit → Option ρ) → Option ρ} {fin : Unit → Option ρ}
    (step : ∀ k nx, k < n → (p k = false → f k () nx fin = some no) ∧ (p k = true → f k () nx fin = nx ())) : cntK f n 0 () fin = if allN n p = true then fin () else some no := by
  have key : ∀ m k, k + m = n → (∀ i, i < k → p i = true) → cntK f m k () fin = if allN n p = true then fin () else some no := by
    intro m
    induction m with
    | zero => intro k hk hu; obtain rfl : k = n := by omega
              rw [allN_iff.2 hu]; rfl
    | succ m ih =>
      intro k hk hu
      obtain ⟨h1, h2⟩ := step k (fun s' => cntK f m (k + 1) s' fin) (by omega)
      show f k () _ fin = _
      cases hp : p k with
      | false => rw [h1 hp, allN_no (by omega) hp]; rfl
      | true =>
        rw [h2 hp]
        refine ih (k + 1) (by omega) (fun i hi => ?_)
        by_cases he : i = k
        · rw [he]; exact hp
        · exact hu i (by omega)
  exact key n 0 (by omega) (fun i hi => by omega)
theorem lp_ex {σ ρ : Type} {f : σ → (σ → Option ρ) → (σ → Option ρ) → Option ρ} {fin : σ → Option ρ} {Q : ρ → Prop} {n : Nat} (I : Nat → σ → Prop)
    (step : ∀ k s nx, k < n → I k s → (∀ s', I (k + 1) s' → ∃ r, nx s' = some r ∧ Q r) → ∃ r, f s nx fin = some r ∧ Q r) (done : ∀ s nx, I n s → ∃ r, f s nx fin = some r ∧ Q r) :
    ∀ fuel k s, k ≤ n → n - k < fuel → I k s → ∃ r, loopK f fuel s fin = some r ∧ Q r := by
  intro fuel
  induction fuel with
  | zero => intro k s hk hf; omega
  | succ m ih =>
    intro k s hk hf hI
    show ∃ r, f s _ fin = some r ∧ Q r
    by_cases he : k = n
    · subst he; exact done s _ hI
    · exact step k s _ (by omega) hI (fun s' h' => ih (k + 1) s' (by omega) (by omega) h')
theorem all_lp {ρ : Type} {n : Nat} {p : Nat → Bool} {no : ρ} {f : Int → (Int → Option ρ) → (Int → Option ρ) → Option ρ} {fin : Int → Option ρ}
    (step : ∀ (k : Nat) nx, k < n → (p k = false → f (k : Int) nx fin = some no) ∧ (p k = true → f (k : Int) nx fin = nx ((k + 1 : Nat) : Int))) (stop : ∀ nx, f (n : Int) nx fin = fin (n : Int))
    (fuel : Nat) (hf : n < fuel) : loopK f fuel 0 fin = if allN n p = true then fin (n : Int) else some no := by
  have key : ∀ fuel k, k ≤ n → n - k < fuel → (∀ i, i < k → p i = true) → loopK f fuel (k : Int) fin = if allN n p = true then fin (n : Int) else some no := by
    intro fuel
    induction fuel with
    | zero => intro k hk hf; omega
    | succ m ih =>
      intro k hk hf hu
      show f (k : Int) _ fin = _
      by_cases he : k = n
      · subst he; rw [stop, allN_iff.2 hu]; rfl
      · obtain ⟨h1, h2⟩ := step k (fun s' => loopK f m s' fin) (by omega)
        cases hp : p k with
        | false => rw [h1 hp, allN_no (by omega) hp]; rfl
        | true =>
          rw [h2 hp]
          refine ih (k + 1) (by omega) (by omega) (fun i hi => ?_)
          by_cases he : i = k
          · rw [he]; exact hp
          · exact hu i (by omega)
  exact key fuel 0 (by omega) (by omega) (fun i hi => by omega)
theorem next_i {k : Nat} (h : k ≤ 9223372036854775806) : IntKind.i64.wrap ((k : Int) + 1) = ((k + 1 : Nat) : Int) := by rw [wrap_in (by omega) (by omega)]; omega
end Go.Proofs.Ytekacbjnpeglhaa.QAll

/- Chapter 6: tables of kinds: the plain functions of the program and of the reference agree, and the laws answer true. (Q6Hist) No condition but those of each theorem. -/
namespace Go.Proofs.Ytekacbjnpeglhaa.Q6Hist
set_option linter.unusedVariables false
set_option linter.unusedSimpArgs false
open Go.RowKit
open Go.Proofs.Ytekacbjnpeglhaa.GoP Go.Proofs.Ytekacbjnpeglhaa.PlainStamp Go.Proofs.Ytekacbjnpeglhaa.QBase Go.Proofs.Ytekacbjnpeglhaa.QLoop Go.Proofs.Ytekacbjnpeglhaa.QAll

/-- loops that test each place; what stood the test before is known -/
theorem all_cntH {ρ : Type} {n : Nat} {p : Nat → Bool} {no : ρ} {f : Nat → Unit → (Unit → Option ρ) → (Unit → Option ρ) → Option ρ} {fin : Unit → Option ρ}
    (step : ∀ k nx, k < n → (∀ i, i < k → p i = true) → (p k = false → f k () nx fin = some no) ∧ (p k = true → f k () nx fin = nx ())) : cntK f n 0 () fin = if allN n p = true then fin () else some no := by
  have key : ∀ m k, k + m = n → (∀ i, i < k → p i = true) → cntK f m k () fin = if allN n p = true then fin () else some no := by
    intro m
    induction m with
    | zero => intro k hk hu; obtain rfl : k = n := by omega
              rw [allN_iff.2 hu]; rfl
    | succ m ih =>
      intro k hk hu
      obtain ⟨h1, h2⟩ := step k (fun s' => cntK f m (k + 1) s' fin) (by omega) hu
      show f k () _ fin = _
      cases hp : p k with
      | false => rw [h1 hp, allN_no (by omega) hp]; rfl
      | true =>
        rw [h2 hp]
        refine ih (k + 1) (by omega) (fun i hi => ?_)
        by_cases he : i = k
        · rw [he]; exact hp
        · exact hu i (by omega)
  exact key n 0 (by omega) (fun i hi => by omega)
theorem all_lpH {ρ : Type} {n : Nat} {p : Nat → Bool} {no : ρ} {f : Int → (Int → Option ρ) → (Int → Option ρ) → Option ρ} {fin : Int → Option ρ}
    (step : ∀ (k : Nat) nx, k < n → (∀ i, i < k → p i = true) → (p k = false → f (k : Int) nx fin = some no) ∧ (p k = true → f (k : Int) nx fin = nx ((k + 1 : Nat) : Int))) (stop : ∀ nx, f (n : Int) nx fin = fin (n : Int))
    (fuel : Nat) (hf : n < fuel) : loopK f fuel 0 fin = if allN n p = true then fin (n : Int) else some no := by
  have key : ∀ fuel k, k ≤ n → n - k < fuel → (∀ i, i < k → p i = true) → loopK f fuel (k : Int) fin = if allN n p = true then fin (n : Int) else some no := by
    intro fuel
    induction fuel with
    | zero => intro k hk hf; omega
    | succ m ih =>
      intro k hk hf hu
      show f (k : Int) _ fin = _
      by_cases he : k = n
      · subst he; rw [stop, allN_iff.2 hu]; rfl
      · obtain ⟨h1, h2⟩ := step k (fun s' => loopK f m s' fin) (by omega) hu
        cases hp : p k with
        | false => rw [h1 hp, allN_no (by omega) hp]; rfl
        | true =>
          rw [h2 hp]
          refine ih (k + 1) (by omega) (by omega) (fun i hi => ?_)
          by_cases he : i = k
          · rw [he]; exact hp
          · exact hu i (by omega)
  exact key fuel 0 (by omega) (by omega) (fun i hi => by omega)
end Go.Proofs.Ytekacbjnpeglhaa.Q6Hist

/- Chapter 6: tables of kinds: the plain functions of the program and of the reference agree, and the laws answer true. (Q6Ban) No condition but those of each theorem. -/
namespace Go.Proofs.Ytekacbjnpeglhaa.Q6Ban
set_option linter.unusedVariables false
set_option linter.unusedSimpArgs false
open Go.RowKit
open Go.Proofs.Ytekacbjnpeglhaa.GoP Go.Proofs.Ytekacbjnpeglhaa.PlainStamp Go.Proofs.Ytekacbjnpeglhaa.QBase Go.Proofs.Ytekacbjnpeglhaa.Q6Hist Go.Proofs.Ytekacbjnpeglhaa.QLoop Go.Proofs.Ytekacbjnpeglhaa.QAll Go.Proofs.Ytekacbjnpeglhaa.PBan

def okS (s : List Int) : Bool := allN s.length fun i => match s[i]? with | some z => inB z 1 5 | none => true
theorem okS_at {s : List Int} (h : okS s = true) {i : Nat} {z : Int} (hz : s[i]? = some z) : 1 ≤ z ∧ z ≤ 5 := by
  have := allN_iff.1 h i (List.getElem?_eq_some_iff.1 hz).1
  simp only [hz] at this
  exact inB_of this
def hasV (s : List Int) (a v : Int) : Bool := inB a 0 (s.length - 1) && (match s[a.toNat]? with | some z => inB v 0 (z - 1) | none => false)
theorem hasV_of {s : List Int} {a v : Int} (h : hasV s a v = true) : ∃ (k : Nat) (z : Int), a = (k : Int) ∧ k < s.length ∧ s[k]? = some z ∧ 0 ≤ v ∧ v < z := by
  unfold hasV at h
  simp only [Bool.and_eq_true] at h
  have h1 := inB_of h.1
  obtain ⟨k, rfl⟩ : ∃ k : Nat, a = (k : Int) := ⟨a.toNat, by omega⟩
  obtain ⟨z, hz, _⟩ := at_lt (l := s) (k := k) (by omega)
  have h2 := h.2
  rw [Int.toNat_natCast, hz] at h2
  have := inB_of h2
  exact ⟨k, z, rfl, by omega, hz, by omega, by omega⟩
theorem hasValue_eq (s : List Int) (hs : okS s = true) (hl : s.length ≤ 9223372036854775807) (a v : Int) : GiHasValue.P s a v = some (hasV s a v) := by
  simp only [GiHasValue.P, within_eq, Option.bind_some, letK, joinK, appK, iteK_if]
  rw [wrap_in (by omega) (by omega)]
  unfold hasV
  cases h : inB a 0 (s.length - 1) with
  | false => simp
  | true =>
    have h1 := inB_of h
    obtain ⟨k, rfl⟩ : ∃ k : Nat, a = (k : Int) := ⟨a.toNat, by omega⟩
    obtain ⟨z, hz, hi⟩ := at_lt (l := s) (k := k) (by omega)
    have hz2 := okS_at hs hz
    simp only [hi, Option.bind_some, Int.toNat_natCast, hz, if_true, Bool.true_and]
    rw [wrap_in (by omega) (by omega)]
def okB (s : List Int) (b : Ban) : Bool := decide (b.a < b.b) && hasV s b.a b.x && hasV s b.b b.y
theorem isBan_eq (s : List Int) (hs : okS s = true) (hl : s.length ≤ 9223372036854775807) (b : Ban) : GiIsBan.P s b = some (okB s b) := by
  obtain ⟨a, x, c, y⟩ := b
  simp only [GiIsBan.P, unBan, hasValue_eq s hs hl, Option.bind_some, letK, joinK, appK, iteK_if, okB]
  by_cases h : a < c <;> cases hasV s a x <;> cases hasV s c y <;> simp [h]
theorem l6Ban_eq (s : List Int) (hs : okS s = true) (hl : s.length ≤ 9223372036854775807) (b : Ban) : GsL6Ban.P s b = some (okB s b) := by
  obtain ⟨a, x, c, y⟩ := b
  simp only [GsL6Ban.P, unBan, l1In_eq, Option.bind_some, letK, joinK, appK, iteK_if, okB, hasV]
  by_cases h1 : 0 ≤ a
  · by_cases h2 : a < c
    · by_cases h3 : c < (s.length : Int)
      · obtain ⟨i, rfl⟩ : ∃ k : Nat, a = (k : Int) := ⟨a.toNat, by omega⟩
        obtain ⟨j, rfl⟩ : ∃ k : Nat, c = (k : Int) := ⟨c.toNat, by omega⟩
        obtain ⟨z, hz, hi⟩ := at_lt (l := s) (k := i) (by omega)
        obtain ⟨u, hu, hj⟩ := at_lt (l := s) (k := j) (by omega)
        have hz2 := okS_at hs hz
        have hu2 := okS_at hs hu
        have e1 : inB (i : Int) 0 (s.length - 1) = true := by unfold inB; simp; omega
        have e2 : inB (j : Int) 0 (s.length - 1) = true := by unfold inB; simp; omega
        simp only [h1, h2, h3, decide_true, if_true, hi, hj, Option.bind_some, Int.toNat_natCast, hz, hu, e1, e2, Bool.true_and]
        rw [wrap_in (x := z - 1) (by omega) (by omega), wrap_in (x := u - 1) (by omega) (by omega)]
        cases inB x 0 (z - 1) <;> simp
      · have e2 : inB c 0 (s.length - 1) = false := by unfold inB; simp; omega
        simp [h1, h2, h3, e2]
    · simp [h1, h2]
  · have e1 : inB a 0 (s.length - 1) = false := by unfold inB; simp; omega
    simp [h1, e1]
def code (b : Ban) : Int := 1000 * b.a + 100 * b.x + 10 * b.b + b.y
theorem okB_in {s : List Int} (hs : okS s = true) (hl : s.length ≤ 5) {b : Ban} (h : okB s b = true) : 0 ≤ b.a ∧ b.a < b.b ∧ b.b ≤ 4 ∧ b.b < s.length ∧ 0 ≤ b.x ∧ b.x ≤ 4 ∧ 0 ≤ b.y ∧ b.y ≤ 4 := by
  unfold okB at h
  simp only [Bool.and_eq_true, decide_eq_true_eq] at h
  obtain ⟨k, z, e1, k1, hz, v1, v2⟩ := hasV_of h.1.2
  obtain ⟨j, u, e2, k2, hu, v3, v4⟩ := hasV_of h.2
  have := okS_at hs hz
  have := okS_at hs hu
  omega
theorem l6Code_eq {s : List Int} (hs : okS s = true) (hl : s.length ≤ 5) {b : Ban} (h : okB s b = true) : GsL6Code.P b = some (code b) := by
  have := okB_in hs hl h
  obtain ⟨a, x, c, y⟩ := b
  dsimp only at this
  simp only [GsL6Code.P, unBan, letK, code]
  rw [wrap_in (x := 1000 * a) (by omega) (by omega), wrap_in (x := 100 * x) (by omega) (by omega), wrap_in (x := 1000 * a + 100 * x) (by omega) (by omega), wrap_in (x := 10 * c) (by omega) (by omega), wrap_in (x := 1000 * a + 100 * x + 10 * c) (by omega) (by omega), wrap_in (by omega) (by omega)]
def cmpI (x y : Int) : Int := if x < y then -1 else if y < x then 1 else 0
theorem cmp_eq (x y : Int) : GxCmpCompareInt.P x y = some (cmpI x y) := by
  simp only [GxCmpCompareInt.P, GxCmpIsNaNInt.P, Option.bind_some, letK, iteK_if, cmpI]
  by_cases h1 : x < y
  · simp [h1]
  · by_cases h2 : y < x <;> simp [h1, h2]
theorem or_eq (a b c d : Int) : GxCmpOrInt.P [a, b, c, d] = some (if a != 0 then a else if b != 0 then b else if c != 0 then c else d) := by
  have st : ∀ m k fin, cntK (GxCmpOrInt.l0 [a, b, c, d]) (m + 1) k () fin = GxCmpOrInt.l0 [a, b, c, d] k () (fun s' => cntK (GxCmpOrInt.l0 [a, b, c, d]) m (k + 1) s' fin) fin := fun _ _ _ => rfl
  show cntK (GxCmpOrInt.l0 [a, b, c, d]) (3 + 1) 0 () (GxCmpOrInt.e0) = _
  rw [st]
  simp only [GxCmpOrInt.l0, show idx [a, b, c, d] ((0 : Nat) : Int) = some a from rfl, Option.bind_some, letK, appK, iteK_if]
  by_cases ha : (a != 0) = true
  · rw [if_pos ha, if_pos ha]
  · rw [if_neg ha, if_neg ha]
    show cntK (GxCmpOrInt.l0 [a, b, c, d]) (2 + 1) 1 () (GxCmpOrInt.e0) = _
    rw [st]
    simp only [GxCmpOrInt.l0, show idx [a, b, c, d] ((1 : Nat) : Int) = some b from rfl, Option.bind_some, letK, appK, iteK_if]
    by_cases hb : (b != 0) = true
    · rw [if_pos hb, if_pos hb]
    · rw [if_neg hb, if_neg hb]
      show cntK (GxCmpOrInt.l0 [a, b, c, d]) (1 + 1) 2 () (GxCmpOrInt.e0) = _
      rw [st]
      simp only [GxCmpOrInt.l0, show idx [a, b, c, d] ((2 : Nat) : Int) = some c from rfl, Option.bind_some, letK, appK, iteK_if]
      by_cases hc : (c != 0) = true
      · rw [if_pos hc, if_pos hc]
      · rw [if_neg hc, if_neg hc]
        show cntK (GxCmpOrInt.l0 [a, b, c, d]) (0 + 1) 3 () (GxCmpOrInt.e0) = _
        rw [st]
        simp only [GxCmpOrInt.l0, show idx [a, b, c, d] ((3 : Nat) : Int) = some d from rfl, Option.bind_some, letK, appK, iteK_if]
        by_cases hd : (d != 0) = true
        · rw [if_pos hd]
        · rw [if_neg hd]
          have : d = 0 := by simpa using hd
          rw [this]; rfl
theorem compare_eq {s : List Int} (hs : okS s = true) (hl : s.length ≤ 5) {r b : Ban} (hr : okB s r = true) (hb : okB s b = true) : ∃ c, GiCompareBans.P r b = some c ∧ (0 ≤ c ↔ code b ≤ code r) ∧ (c < 0 ↔ code r < code b) ∧ (c = 0 ↔ code r = code b) := by
  have h1 := okB_in hs hl hr
  have h2 := okB_in hs hl hb
  obtain ⟨a, x, c, y⟩ := r
  obtain ⟨a', x', c', y'⟩ := b
  dsimp only at h1 h2
  simp only [GiCompareBans.P, unBan, cmp_eq, Option.bind_some, letK, or_eq]
  refine ⟨_, rfl, ?_⟩
  unfold cmpI code
  dsimp only
  by_cases p1 : a < a'
  · simp [p1]; omega
  · by_cases p2 : a' < a
    · simp [p1, p2]; omega
    · obtain rfl : a = a' := by omega
      by_cases p3 : x < x'
      · simp [p3]; omega
      · by_cases p4 : x' < x
        · simp [p3, p4]; omega
        · obtain rfl : x = x' := by omega
          by_cases p5 : c < c'
          · simp [p5]; omega
          · by_cases p6 : c' < c
            · simp [p5, p6]; omega
            · obtain rfl : c = c' := by omega
              by_cases p7 : y < y'
              · simp [p7]; omega
              · by_cases p8 : y' < y
                · simp [p7, p8]; omega
                · simp [p7, p8]; omega
end Go.Proofs.Ytekacbjnpeglhaa.Q6Ban

/- Chapter 6: tables of kinds: the plain functions of the program and of the reference agree, and the laws answer true. (Q6Tab) No condition but those of each theorem. -/
namespace Go.Proofs.Ytekacbjnpeglhaa.Q6Tab
set_option linter.unusedVariables false
set_option linter.unusedSimpArgs false
open Go.RowKit
open Go.Proofs.Ytekacbjnpeglhaa.GoP Go.Proofs.Ytekacbjnpeglhaa.PlainStamp Go.Proofs.Ytekacbjnpeglhaa.QBase Go.Proofs.Ytekacbjnpeglhaa.Q6Ban Go.Proofs.Ytekacbjnpeglhaa.Q6Hist Go.Proofs.Ytekacbjnpeglhaa.QLoop Go.Proofs.Ytekacbjnpeglhaa.QAll Go.Proofs.Ytekacbjnpeglhaa.PBan

def upB (s : List Int) (l : List Ban) (k : Nat) : Bool := upAt (okB s) code l k
def okT (s : List Int) (l : List Ban) : Bool := inB s.length 1 5 && decide (l.length ≤ 20) && okS s && allN l.length (upB s l)
theorem okT_of {s : List Int} {l : List Ban} (h : okT s l = true) : 1 ≤ s.length ∧ s.length ≤ 5 ∧ l.length ≤ 20 ∧ okS s = true ∧ ∀ b ∈ l, okB s b = true := by
  unfold okT at h
  simp only [Bool.and_eq_true, decide_eq_true_eq] at h
  have h1 := inB_of h.1.1.1
  refine ⟨by omega, by omega, h.1.1.2, h.1.2, fun b hb => ?_⟩
  obtain ⟨k, hk⟩ := List.getElem?_of_mem hb
  have := allN_iff.1 h.2 k (List.getElem?_eq_some_iff.1 hk).1
  unfold upB upAt at this
  rw [hk] at this
  simp only [Bool.and_eq_true] at this
  exact this.1
theorem hist_ok {s : List Int} {l : List Ban} {k : Nat} (hu : ∀ i, i < k → upB s l i = true) (hk : 0 < k) {r : Ban} (hr : l[k - 1]? = some r) : okB s r = true := by
  have := hu (k - 1) (by omega)
  unfold upB upAt at this
  rw [hr] at this
  simp only [Bool.and_eq_true] at this
  exact this.1
theorem isTable_eq (s : List Int) (l : List Ban) (hs : s.length ≤ 9223372036854775807) (hl : l.length ≤ 9223372036854775807) : GiIsKindTable.P s l = some (okT s l) := by
  simp only [GiIsKindTable.P, within_eq, Option.bind_some, letK, joinK, appK, iteK_if, okT]
  cases h1 : inB s.length 1 5 with
  | false => simp
  | true =>
    have hs5 := inB_of h1
    by_cases h2 : l.length ≤ 20
    · simp only [Bool.not_true, Bool.false_eq_true, if_false, show ¬ (20 < (l.length : Int)) by omega, decide_false, h2, decide_true, Bool.true_and]
      rw [all_cnt (p := fun i => match s[i]? with | some z => inB z 1 5 | none => true) (no := false)]
      · show (if okS s = true then _ else _) = _
        cases h3 : okS s with
        | false => simp
        | true =>
          simp only [if_true, Bool.true_and, GiIsKindTable.e0]
          rw [all_cntH (p := upB s l) (no := false)]
          · cases allN l.length (upB s l) <;> simp [GiIsKindTable.e1]
          · intro k nx hk hu
            obtain ⟨b, hb, hi⟩ := at_lt (l := l) (k := k) hk
            simp only [GiIsKindTable.l1, hi, Option.bind_some, unBan, isBan_eq s h3 (by omega), letK, joinK, appK, iteK_if]
            cases hok : okB s b with
            | false => exact ⟨fun _ => by simp, fun h => by rw [show upB s l k = false from upAt_bad hb hok] at h; exact absurd h (by simp)⟩
            | true =>
              by_cases hk0 : k = 0
              · subst hk0
                rw [show upB s l 0 = true from upAt_first hb hok]
                exact ⟨fun h => absurd h (by simp), fun _ => by simp⟩
              · obtain ⟨r, hr, _⟩ := at_lt (l := l) (k := k - 1) (by omega)
                have hrk := hist_ok hu (by omega) hr
                obtain ⟨c, hc, c1, c2, c3⟩ := compare_eq h3 (by omega) hrk hok
                rw [show upB s l k = decide (code r < code b) from upAt_next hb hr (by omega) hok]
                have hk1 : (0 : Int) < (k : Int) := by omega
                simp only [hk1, decide_true, if_true, Bool.not_true, Bool.false_eq_true, if_false]
                rw [idx_pred (by omega) (by omega) hr]
                simp only [Option.bind_some, hc]
                by_cases hlt : code r < code b
                · simp [hlt, show ¬ 0 ≤ c by omega]
                · simp [hlt, show 0 ≤ c by omega]
      · intro k nx hk
        obtain ⟨z, hz, hi⟩ := at_lt (l := s) (k := k) hk
        simp only [GiIsKindTable.l0, hi, Option.bind_some, within_eq, letK, appK, iteK_if, hz]
        exact ⟨fun h => by simp [h], fun h => by simp [h]⟩
    · simp [h2, show (20 < (l.length : Int)) by omega]
theorem l6Good_eq (fuel : Nat) (hf : 21 ≤ fuel) (s : List Int) (l : List Ban) (hs : s.length ≤ 9223372036854775807) (hl : l.length ≤ 9223372036854775807) : GsL6Good.P fuel s l = some (okT s l) := by
  simp only [GsL6Good.P, l1In_eq, Option.bind_some, letK, joinK, appK, iteK_if, okT]
  cases h1 : inB s.length 1 5 with
  | false => simp
  | true =>
    have hs5 := inB_of h1
    by_cases h2 : l.length ≤ 20
    · simp only [Bool.not_true, Bool.false_eq_true, if_false, show ¬ (20 < (l.length : Int)) by omega, decide_false, h2, decide_true, Bool.true_and]
      rw [all_lp (n := s.length) (p := fun i => match s[i]? with | some z => inB z 1 5 | none => true) (no := false)]
      · show (if okS s = true then _ else _) = _
        cases h3 : okS s with
        | false => simp
        | true =>
          simp only [if_true, Bool.true_and, GsL6Good.e0, letK]
          rw [all_lpH (n := l.length) (p := upB s l) (no := false)]
          · cases allN l.length (upB s l) <;> simp [GsL6Good.e1, letK]
          · intro k nx hk hu
            obtain ⟨b, hb, hi⟩ := at_lt (l := l) (k := k) hk
            have hlt0 : (k : Int) < (l.length : Int) := by omega
            simp only [GsL6Good.l1, letK, hlt0, decide_true, hi, Option.bind_some, unBan, l6Ban_eq s h3 (by omega), joinK, appK, iteK_if, if_true]
            rw [next_i (by omega)]
            cases hok : okB s b with
            | false => exact ⟨fun _ => by simp, fun h => by rw [show upB s l k = false from upAt_bad hb hok] at h; exact absurd h (by simp)⟩
            | true =>
              by_cases hk0 : k = 0
              · subst hk0
                rw [show upB s l 0 = true from upAt_first hb hok]
                exact ⟨fun h => absurd h (by simp), fun _ => by simp⟩
              · obtain ⟨r, hr, _⟩ := at_lt (l := l) (k := k - 1) (by omega)
                have hrk := hist_ok hu (by omega) hr
                have e1 := l6Code_eq h3 (by omega) hrk
                have e2 := l6Code_eq h3 (by omega) hok
                rw [show upB s l k = decide (code r < code b) from upAt_next hb hr (by omega) hok]
                have hk1 : (0 : Int) < (k : Int) := by omega
                simp only [hk1, decide_true, if_true, Bool.not_true, Bool.false_eq_true, if_false]
                rw [idx_pred (by omega) (by omega) hr]
                simp only [Option.bind_some, e1, e2]
                by_cases hlt : code r < code b
                · simp [hlt, show ¬ code b ≤ code r by omega]
                · simp [hlt, show code b ≤ code r by omega]
          · intro nx
            simp [GsL6Good.l1, letK, appK, iteK_if]
          · omega
      · intro k nx hk
        obtain ⟨z, hz, hi⟩ := at_lt (l := s) (k := k) hk
        have hlt0 : (k : Int) < (s.length : Int) := by omega
        simp only [GsL6Good.l0, letK, hlt0, decide_true, hi, Option.bind_some, l1In_eq, appK, iteK_if, hz, if_true]
        rw [next_i (by omega)]
        exact ⟨fun h => by simp [h], fun h => by simp [h]⟩
      · intro nx
        simp [GsL6Good.l0, letK, appK, iteK_if]
      · omega
    · simp [h2, show (20 < (l.length : Int)) by omega]
end Go.Proofs.Ytekacbjnpeglhaa.Q6Tab

