/- The texts on which the proof of FnExactFreeColors stands, one behind the other (2 of 2). No condition of their own. -/
import Derived.Test.YtpbbechgpgnpbaaChecked
import Derived.Test.YtpbbechgpgnpbaaFnExactFreeColorsP1
import Derived.WalkKit
import Derived.WalkSpells
import Derived.WalkLawsBesides
import Derived.BigQuiet
import Derived.OwnWalk
import Derived.Deep.LoopGhost
import Derived.Deep.QuietTactic
import Derived.IntWalk
import Derived.Lib.QuietBelow
/- loop.example/g01062/impl.countHues as a plain function, and the contract of the program's: where the plain one has an answer, the program has it. Conditions: slices read as lists. -/
namespace Go.Proofs.Ytpbbechgpgnpbaa.GiCountHuesiFreeColors1
set_option linter.unusedVariables false
set_option linter.unusedSimpArgs false
open Go.RowKit
open Go.Proofs.Ytpbbechgpgnpbaa.Rowed Go.Proofs.Ytpbbechgpgnpbaa.Turn Go.Proofs.Ytpbbechgpgnpbaa.Aid Go.Proofs.Ytpbbechgpgnpbaa.GoP Go.Proofs.Ytpbbechgpgnpbaa.GoM

def l0 (hf0_0 : (List Go.Proofs.Ytpbbechgpgnpbaa.PShade.Shade)) (hf0_1 : Int) (k0 : Nat) (s : Int) (nx0 bk0 : Int → Option (Int)) : Option (Int) :=
  letK s fun count_3l0 =>
  Option.bind (Go.Proofs.Ytpbbechgpgnpbaa.GiFreeColors1.P (k0 : Int) hf0_0 hf0_1) fun (t_8 : Bool) =>
  iteK t_8
  (letK (IntKind.i64.wrap (count_3l0 + 1)) fun (t_10 : Int) =>
  appK nx0 (t_10))
  (appK nx0 (count_3l0))

def e0  (s : Int) : Option (Int) :=
  letK s fun count_3l0 =>
  some count_3l0

def P (hf0_0 : (List Go.Proofs.Ytpbbechgpgnpbaa.PShade.Shade)) (hf0_1 : Int) : Option (Int) :=
  cntK (l0 hf0_0 hf0_1) (360) 0 (0) (e0 )

set_option maxRecDepth 100000 in
set_option maxHeartbeats 2000000 in
theorem C (hf0_0 : (List Go.Proofs.Ytpbbechgpgnpbaa.PShade.Shade)) (hf0_1 : Int) (Ahf0_0 : Option Addr) (chf0_0 : Nat) (gf0_0 : Nat) (gf0_1 : Nat) (w : World) (Mhf0_0 : Hid (Cells w 5 Ahf0_0 hf0_0.length (Go.Proofs.Ytpbbechgpgnpbaa.PShade.flat hf0_0))) (Nhf0_0 : Hid (hf0_0.length ≤ 9223372036854775807)) (Ff0_0h : Hid (w.cell? ⟨gf0_0, 0, none⟩ = some (.slice Ahf0_0 hf0_0.length chf0_0))) (Ff0_1h : Hid (w.cell? ⟨gf0_1, 0, none⟩ = some (.int .i64 hf0_1))) {r : Int} (H : Hid (P hf0_0 hf0_1 = some r)) :
    Calls Try.prog 84 #[.func (.func 85) #[] #[.pointer (some ⟨gf0_0, 0, none⟩), .pointer (some ⟨gf0_1, 0, none⟩)]] w (Gives (.int .i64 r) w) := by
  have HB := Lib.hid (Below.refl w.heap.size w)
  unfold P at H
  have Nhf0_0o := Nhf0_0.out
  have Ff0_0 := Ff0_0h.out
  have Ff0_1 := Ff0_1h.out
  go_enter Try.func84, Try.ntmps84
  go_wp2_with fail
  go_loopg [5, 3] (360) (fun m_ v5_ v3_ wr => ∃ (k0 : Nat) (count_3l0 : Int), k0 + m_ = 360 ∧ v5_ = .int .i64 (k0 : Int) ∧ v3_ = .int .i64 count_3l0 ∧ Hid (cntK (l0 hf0_0 hf0_1) m_ k0 (count_3l0) (e0 ) = some r) ∧ Hid (Below w.heap.size w wr) ∧ wr.cell? ⟨gf0_0, 0, none⟩ = some (.slice Ahf0_0 hf0_0.length chf0_0) ∧ wr.cell? ⟨gf0_1, 0, none⟩ = some (.int .i64 hf0_1))
  case atStart => exact ⟨0, _, by omega, rfl, rfl, H, HB, Ff0_0, Ff0_1⟩
  case round =>
    obtain ⟨k0, count_3l0, hkm0, rfl, rfl, H, HBwr0, Ff0_0, Ff0_1⟩ := hrel
    rename World => wr0
    cases gk with
    | zero =>
      obtain rfl : k0 = 360 := by omega
      have hc0 : decide (((360 : Nat) : Int) < ((360 : Nat) : Int)) = false := by simp
      replace H := cnt_zero H
      unfold e0 at H
      replace H := let_hid H
      obtain ⟨_, rfl, H⟩ := H
      obtain rfl := ret_hid H
      go_wp2_with fail
      go_ret
      exact ⟨rfl, HBwr0.out⟩
    | succ m0 =>
      have hlt0 : k0 < 360 := by omega
      have hc0 : decide ((k0 : Int) < ((360 : Nat) : Int)) = true := by simp; omega
      replace H := cnt_succ H
      unfold l0 at H
      replace H := let_hid H
      obtain ⟨_, rfl, H⟩ := H
      replace H := bind_hid H
      obtain ⟨t_8, qt_8, H⟩ := H
      go_wp2_with fail
      go_at_call 85
      refine (Go.Proofs.Ytpbbechgpgnpbaa.GiFreeColors1.C ((k0 : Int)) (hf0_0) (hf0_1) Ahf0_0 chf0_0 (gf0_0) (gf0_1) _   (Lib.hid (Cells.below Mhf0_0.out HBwr0.out)) Nhf0_0 (Lib.hid Ff0_0) (Lib.hid Ff0_1) qt_8).mono ?_
      rintro e_t_8 wt_8 ⟨rfl, bt_8⟩
      have HBwt_8 := Lib.hid (Below.step HBwr0.out bt_8)
      replace Ff0_0 := cell_below bt_8 Ff0_0
      replace Ff0_1 := cell_below bt_8 Ff0_1
      clear bt_8
      cases t_8 with
      | false =>
        replace H := ite_f H
        replace H := app_hid H
        go_wp2_with fail
        go_roundg m0
        case measure => omega
        case rel => exact ⟨k0 + 1, _, by omega, by go_num, rfl, H, HBwt_8, Ff0_0, Ff0_1⟩
      | true =>
        replace H := ite_t H
        replace H := let_hid H
        obtain ⟨t_10, ht_10, H⟩ := H
        replace H := app_hid H
        go_wp2_with fail
        go_roundg m0
        case measure => omega
        case rel => exact ⟨k0 + 1, _, by omega, by go_num, rfl, H, HBwt_8, Ff0_0, Ff0_1⟩
end Go.Proofs.Ytpbbechgpgnpbaa.GiCountHuesiFreeColors1

/- loop.example/g01062/impl.FreeColors as a plain function, and the contract of the program's: where the plain one has an answer, the program has it. Conditions: slices read as lists. -/
namespace Go.Proofs.Ytpbbechgpgnpbaa.GiFreeColors
set_option linter.unusedVariables false
set_option linter.unusedSimpArgs false
open Go.RowKit
open Go.Proofs.Ytpbbechgpgnpbaa.Rowed Go.Proofs.Ytpbbechgpgnpbaa.Turn Go.Proofs.Ytpbbechgpgnpbaa.Aid Go.Proofs.Ytpbbechgpgnpbaa.GoP Go.Proofs.Ytpbbechgpgnpbaa.GoM

def P (list : (List Go.Proofs.Ytpbbechgpgnpbaa.PShade.Shade)) (light : Int) : Option (Int × Bool) :=
  Option.bind (Go.Proofs.Ytpbbechgpgnpbaa.GiAreShades.P list) fun (t_5 : Bool) =>
  letK (!t_5) fun (t_6 : Bool) =>
  joinK (fun (t_11 : Bool) =>
  iteK t_11
  (some (0, false))
  (Option.bind (Go.Proofs.Ytpbbechgpgnpbaa.GiCountHuesiFreeColors1.P list light) fun (t_15 : Int) =>
  some (t_15, true))) fun jt_11 => iteK t_6 (appK jt_11 true) (Option.bind (Go.Proofs.Ytpbbechgpgnpbaa.GiIsLightness.P light) fun (t_9 : Bool) =>
  letK (!t_9) fun (t_10 : Bool) =>
  appK jt_11 t_10)

set_option maxRecDepth 100000 in
set_option maxHeartbeats 2000000 in
theorem C (list : (List Go.Proofs.Ytpbbechgpgnpbaa.PShade.Shade)) (light : Int) (A0 : Option Addr) (c0 : Nat)  (w : World) (M0 : Hid (Cells w 5 A0 list.length (Go.Proofs.Ytpbbechgpgnpbaa.PShade.flat list))) (N0 : Hid (list.length ≤ 9223372036854775807))  {r0 : Int} {r1 : Bool} (H : Hid (P list light = some (r0, r1))) :
    Calls Try.prog 44 #[.slice A0 list.length c0, .int .i64 light] w (Gives (.tuple #[.int .i64 r0, .bool r1]) w) := by
  have HB := Lib.hid (Below.refl w.heap.size w)
  unfold P at H
  have N0o := N0.out
  go_enter Try.func44, Try.ntmps44
  obtain ⟨w_list_0, hw_list_0⟩ : ∃ x, w.alloc (.cells #[.slice A0 list.length c0] 32) = x := ⟨_, rfl⟩
  have bw_list_0 : Below w.heap.size w w_list_0 := by rw [← hw_list_0]; exact (Below.refl _ _).alloc (Nat.le_refl _) _
  have HBw_list_0 := Lib.hid (Below.step HB.out bw_list_0)
  clear bw_list_0
  have klist_0_0 : w_list_0.cell? ⟨w.heap.size, 0, none⟩ = some (.slice A0 list.length c0) := by rw [← hw_list_0]; exact box_new _ _ _ 0 _ rfl
  obtain ⟨w_light_1, hw_light_1⟩ : ∃ x, w_list_0.alloc (.cells #[.int .i64 light] 3) = x := ⟨_, rfl⟩
  have bw_light_1 : Below w_list_0.heap.size w_list_0 w_light_1 := by rw [← hw_light_1]; exact (Below.refl _ _).alloc (Nat.le_refl _) _
  have HBw_light_1 := Lib.hid (Below.step HBw_list_0.out bw_light_1)
  have klist_0_0__180 := cell_below bw_light_1 klist_0_0
  clear bw_light_1
  have klight_1_0 : w_light_1.cell? ⟨w_list_0.heap.size, 0, none⟩ = some (.int .i64 light) := by rw [← hw_light_1]; exact box_new _ _ _ 0 _ rfl
  replace H := bind_hid H
  obtain ⟨t_5, qt_5, H⟩ := H
  go_wp2_with fail
  clear klist_0_0
  go_at_call 22
  refine (Go.Proofs.Ytpbbechgpgnpbaa.GiAreShades.C (list) A0 c0 _   (Lib.hid (Cells.below M0.out HBw_light_1.out)) N0 qt_5).mono ?_
  rintro e_t_5 wt_5 ⟨rfl, bt_5⟩
  have HBwt_5 := Lib.hid (Below.step HBw_light_1.out bt_5)
  replace klist_0_0__180 := cell_below bt_5 klist_0_0__180
  replace klight_1_0 := cell_below bt_5 klight_1_0
  clear bt_5
  cases t_5 with
  | false =>
    replace H := let_hid H
    obtain ⟨t_6, ht_6, H⟩ := H
    obtain rfl : t_6 = true := ht_6.symm
    replace H := join_hid H
    replace H := ite_t H
    replace H := app_hid H
    replace H := ite_t H
    cases ret_hid H
    go_wp2_with fail
    go_ret2
    exact ⟨rfl, HBwt_5.out⟩
  | true =>
    replace H := let_hid H
    obtain ⟨t_6, ht_6, H⟩ := H
    obtain rfl : t_6 = false := ht_6.symm
    replace H := join_hid H
    replace H := ite_f H
    replace H := bind_hid H
    obtain ⟨t_9, qt_9, H⟩ := H
    go_wp2_with fail
    go_at_call 59
    refine (Go.Proofs.Ytpbbechgpgnpbaa.GiIsLightness.C (light)  _    qt_9).mono ?_
    rintro e_t_9 wt_9 ⟨rfl, bt_9⟩
    have HBwt_9 := Lib.hid (Below.step HBwt_5.out bt_9)
    replace klist_0_0__180 := cell_below bt_9 klist_0_0__180
    replace klight_1_0 := cell_below bt_9 klight_1_0
    clear bt_9
    cases t_9 with
    | false =>
      replace H := let_hid H
      obtain ⟨t_10, ht_10, H⟩ := H
      obtain rfl : t_10 = true := ht_10.symm
      replace H := app_hid H
      replace H := ite_t H
      cases ret_hid H
      go_wp2_with fail
      go_ret2
      exact ⟨rfl, HBwt_9.out⟩
    | true =>
      replace H := let_hid H
      obtain ⟨t_10, ht_10, H⟩ := H
      obtain rfl : t_10 = false := ht_10.symm
      replace H := app_hid H
      replace H := ite_f H
      replace H := bind_hid H
      obtain ⟨t_15, qt_15, H⟩ := H
      go_wp2_with fail
      go_at_call 84
      refine (Go.Proofs.Ytpbbechgpgnpbaa.GiCountHuesiFreeColors1.C (list) (light) A0 c0 (w.heap.size) (w_list_0.heap.size) _   (Lib.hid (Cells.below M0.out HBwt_9.out)) N0 (Lib.hid klist_0_0__180) (Lib.hid klight_1_0) qt_15).mono ?_
      rintro e_t_15 wt_15 ⟨rfl, bt_15⟩
      have HBwt_15 := Lib.hid (Below.step HBwt_9.out bt_15)
      replace klist_0_0__180 := cell_below bt_15 klist_0_0__180
      replace klight_1_0 := cell_below bt_15 klight_1_0
      clear bt_15
      cases ret_hid H
      go_wp2_with fail
      go_ret2
      exact ⟨rfl, HBwt_15.out⟩
end Go.Proofs.Ytpbbechgpgnpbaa.GiFreeColors

/- loop.example/g01062/laws.eqShade as a plain function, and the contract of the program's: where the plain one has an answer, the program has it. Conditions: slices read as lists. -/
namespace Go.Proofs.Ytpbbechgpgnpbaa.GlEqShade
set_option linter.unusedVariables false
set_option linter.unusedSimpArgs false
open Go.RowKit
open Go.Proofs.Ytpbbechgpgnpbaa.Rowed Go.Proofs.Ytpbbechgpgnpbaa.Turn Go.Proofs.Ytpbbechgpgnpbaa.Aid Go.Proofs.Ytpbbechgpgnpbaa.GoP Go.Proofs.Ytpbbechgpgnpbaa.GoM

def P (a : Go.Proofs.Ytpbbechgpgnpbaa.PShade.Shade) (b : Go.Proofs.Ytpbbechgpgnpbaa.PShade.Shade) : Option (Bool) :=
  unShade a fun (a_name : ByteArray) (a_hue : Int) (a_width : Int) (a_dark : Int) (a_light : Int) =>
  unShade b fun (b_name : ByteArray) (b_hue : Int) (b_width : Int) (b_dark : Int) (b_light : Int) =>
  letK (!(a_name.toList == b_name.toList)) fun (t_7 : Bool) =>
  iteK t_7
  (some false)
  (letK (a_hue != b_hue) fun (t_13 : Bool) =>
  iteK t_13
  (some false)
  (letK (a_width != b_width) fun (t_19 : Bool) =>
  iteK t_19
  (some false)
  (letK (a_dark != b_dark) fun (t_25 : Bool) =>
  iteK t_25
  (some false)
  (letK (a_light != b_light) fun (t_31 : Bool) =>
  iteK t_31
  (some false)
  (some true)))))

set_option maxRecDepth 100000 in
set_option maxHeartbeats 2000000 in
theorem C (a : Go.Proofs.Ytpbbechgpgnpbaa.PShade.Shade) (b : Go.Proofs.Ytpbbechgpgnpbaa.PShade.Shade)   (w : World)   {r : Bool} (H : Hid (P a b = some r)) :
    Calls Try.prog 63 #[a.val, b.val] w (Gives (.bool r) w) := by
  have HB := Lib.hid (Below.refl w.heap.size w)
  unfold P at H
  obtain ⟨a_name, a_hue, a_width, a_dark, a_light⟩ := a
  replace H := unShade_hid H
  obtain ⟨b_name, b_hue, b_width, b_dark, b_light⟩ := b
  replace H := unShade_hid H
  unfold Go.Proofs.Ytpbbechgpgnpbaa.PShade.Shade.val
  go_enter Try.func63, Try.ntmps63
  obtain ⟨w_a_0, hw_a_0⟩ : ∃ x, w.alloc (.cells #[.string a_name, .int .i64 a_hue, .int .i64 a_width, .int .i64 a_dark, .int .i64 a_light] 26) = x := ⟨_, rfl⟩
  have bw_a_0 : Below w.heap.size w w_a_0 := by rw [← hw_a_0]; exact (Below.refl _ _).alloc (Nat.le_refl _) _
  have HBw_a_0 := Lib.hid (Below.step HB.out bw_a_0)
  clear bw_a_0
  have ka_0_0 : w_a_0.cell? ⟨w.heap.size, 0, none⟩ = some (.string a_name) := by rw [← hw_a_0]; exact box_new _ _ _ 0 _ rfl
  have ka_0_1 : w_a_0.cell? ⟨w.heap.size, 1, none⟩ = some (.int .i64 a_hue) := by rw [← hw_a_0]; exact box_new _ _ _ 1 _ rfl
  have ka_0_2 : w_a_0.cell? ⟨w.heap.size, 2, none⟩ = some (.int .i64 a_width) := by rw [← hw_a_0]; exact box_new _ _ _ 2 _ rfl
  have ka_0_3 : w_a_0.cell? ⟨w.heap.size, 3, none⟩ = some (.int .i64 a_dark) := by rw [← hw_a_0]; exact box_new _ _ _ 3 _ rfl
  have ka_0_4 : w_a_0.cell? ⟨w.heap.size, 4, none⟩ = some (.int .i64 a_light) := by rw [← hw_a_0]; exact box_new _ _ _ 4 _ rfl
  obtain ⟨w_b_1, hw_b_1⟩ : ∃ x, w_a_0.alloc (.cells #[.string b_name, .int .i64 b_hue, .int .i64 b_width, .int .i64 b_dark, .int .i64 b_light] 26) = x := ⟨_, rfl⟩
  have bw_b_1 : Below w_a_0.heap.size w_a_0 w_b_1 := by rw [← hw_b_1]; exact (Below.refl _ _).alloc (Nat.le_refl _) _
  have HBw_b_1 := Lib.hid (Below.step HBw_a_0.out bw_b_1)
  have ka_0_0__192 := cell_below bw_b_1 ka_0_0
  have ka_0_1__193 := cell_below bw_b_1 ka_0_1
  have ka_0_2__194 := cell_below bw_b_1 ka_0_2
  have ka_0_3__195 := cell_below bw_b_1 ka_0_3
  have ka_0_4__196 := cell_below bw_b_1 ka_0_4
  clear bw_b_1
  have kb_1_0 : w_b_1.cell? ⟨w_a_0.heap.size, 0, none⟩ = some (.string b_name) := by rw [← hw_b_1]; exact box_new _ _ _ 0 _ rfl
  have kb_1_1 : w_b_1.cell? ⟨w_a_0.heap.size, 1, none⟩ = some (.int .i64 b_hue) := by rw [← hw_b_1]; exact box_new _ _ _ 1 _ rfl
  have kb_1_2 : w_b_1.cell? ⟨w_a_0.heap.size, 2, none⟩ = some (.int .i64 b_width) := by rw [← hw_b_1]; exact box_new _ _ _ 2 _ rfl
  have kb_1_3 : w_b_1.cell? ⟨w_a_0.heap.size, 3, none⟩ = some (.int .i64 b_dark) := by rw [← hw_b_1]; exact box_new _ _ _ 3 _ rfl
  have kb_1_4 : w_b_1.cell? ⟨w_a_0.heap.size, 4, none⟩ = some (.int .i64 b_light) := by rw [← hw_b_1]; exact box_new _ _ _ 4 _ rfl
  replace H := let_hid H
  obtain ⟨t_7, ht_7, H⟩ := H
  cases t_7 with
  | false =>
    replace H := ite_f H
    replace H := let_hid H
    obtain ⟨t_13, ht_13, H⟩ := H
    cases t_13 with
    | false =>
      replace H := ite_f H
      replace H := let_hid H
      obtain ⟨t_19, ht_19, H⟩ := H
      cases t_19 with
      | false =>
        replace H := ite_f H
        replace H := let_hid H
        obtain ⟨t_25, ht_25, H⟩ := H
        cases t_25 with
        | false =>
          replace H := ite_f H
          replace H := let_hid H
          obtain ⟨t_31, ht_31, H⟩ := H
          cases t_31 with
          | false =>
            replace H := ite_f H
            obtain rfl := ret_hid H
            go_wp2_with fail
            go_ret
            exact ⟨rfl, HBw_b_1.out⟩
          | true =>
            replace H := ite_t H
            obtain rfl := ret_hid H
            go_wp2_with fail
            go_ret
            exact ⟨rfl, HBw_b_1.out⟩
        | true =>
          replace H := ite_t H
          obtain rfl := ret_hid H
          go_wp2_with fail
          go_ret
          exact ⟨rfl, HBw_b_1.out⟩
      | true =>
        replace H := ite_t H
        obtain rfl := ret_hid H
        go_wp2_with fail
        go_ret
        exact ⟨rfl, HBw_b_1.out⟩
    | true =>
      replace H := ite_t H
      obtain rfl := ret_hid H
      go_wp2_with fail
      go_ret
      exact ⟨rfl, HBw_b_1.out⟩
  | true =>
    replace H := ite_t H
    obtain rfl := ret_hid H
    go_wp2_with fail
    go_ret
    exact ⟨rfl, HBw_b_1.out⟩
end Go.Proofs.Ytpbbechgpgnpbaa.GlEqShade

/- loop.example/g01062/laws.eqShadeS as a plain function, and the contract of the program's: where the plain one has an answer, the program has it. Conditions: slices read as lists. -/
namespace Go.Proofs.Ytpbbechgpgnpbaa.GlEqShadeS
set_option linter.unusedVariables false
set_option linter.unusedSimpArgs false
open Go.RowKit
open Go.Proofs.Ytpbbechgpgnpbaa.Rowed Go.Proofs.Ytpbbechgpgnpbaa.Turn Go.Proofs.Ytpbbechgpgnpbaa.Aid Go.Proofs.Ytpbbechgpgnpbaa.GoP Go.Proofs.Ytpbbechgpgnpbaa.GoM

def l0 (a : (List Go.Proofs.Ytpbbechgpgnpbaa.PShade.Shade)) (b : (List Go.Proofs.Ytpbbechgpgnpbaa.PShade.Shade)) (k0 : Nat) (s : Unit) (nx0 bk0 : Unit → Option (Bool)) : Option (Bool) :=
  
  Option.bind (idx a (k0 : Int)) fun (yt_14 : Go.Proofs.Ytpbbechgpgnpbaa.PShade.Shade) =>
  unShade yt_14 fun (t_14_name : ByteArray) (t_14_hue : Int) (t_14_width : Int) (t_14_dark : Int) (t_14_light : Int) =>
  Option.bind (idx b (k0 : Int)) fun (yt_18 : Go.Proofs.Ytpbbechgpgnpbaa.PShade.Shade) =>
  unShade yt_18 fun (t_18_name : ByteArray) (t_18_hue : Int) (t_18_width : Int) (t_18_dark : Int) (t_18_light : Int) =>
  Option.bind (Go.Proofs.Ytpbbechgpgnpbaa.GlEqShade.P (Go.Proofs.Ytpbbechgpgnpbaa.PShade.Shade.mk t_14_name t_14_hue t_14_width t_14_dark t_14_light) (Go.Proofs.Ytpbbechgpgnpbaa.PShade.Shade.mk t_18_name t_18_hue t_18_width t_18_dark t_18_light)) fun (t_20 : Bool) =>
  letK (!t_20) fun (t_21 : Bool) =>
  iteK t_21
  (some false)
  (appK nx0 ())

def e0  (s : Unit) : Option (Bool) :=
  
  some true

def P (a : (List Go.Proofs.Ytpbbechgpgnpbaa.PShade.Shade)) (b : (List Go.Proofs.Ytpbbechgpgnpbaa.PShade.Shade)) : Option (Bool) :=
  letK ((a.length : Int) != (b.length : Int)) fun (t_5 : Bool) =>
  iteK t_5
  (some false)
  (cntK (l0 a b) (a.length) 0 () (e0 ))

set_option maxRecDepth 100000 in
set_option maxHeartbeats 2000000 in
theorem C (a : (List Go.Proofs.Ytpbbechgpgnpbaa.PShade.Shade)) (b : (List Go.Proofs.Ytpbbechgpgnpbaa.PShade.Shade)) (A0 : Option Addr) (c0 : Nat) (A1 : Option Addr) (c1 : Nat)  (w : World) (M0 : Hid (Cells w 5 A0 a.length (Go.Proofs.Ytpbbechgpgnpbaa.PShade.flat a))) (N0 : Hid (a.length ≤ 9223372036854775807)) (M1 : Hid (Cells w 5 A1 b.length (Go.Proofs.Ytpbbechgpgnpbaa.PShade.flat b))) (N1 : Hid (b.length ≤ 9223372036854775807))  {r : Bool} (H : Hid (P a b = some r)) :
    Calls Try.prog 23 #[.slice A0 a.length c0, .slice A1 b.length c1] w (Gives (.bool r) w) := by
  have HB := Lib.hid (Below.refl w.heap.size w)
  unfold P at H
  have N0o := N0.out
  have N1o := N1.out
  go_enter Try.func23, Try.ntmps23
  replace H := let_hid H
  obtain ⟨t_5, ht_5, H⟩ := H
  cases t_5 with
  | false =>
    have Hht_5 : Hid (a.length = b.length) := Lib.hid (by have := bne_eq_false_iff_eq.1 ht_5; omega)
    have nht_5 : (a.length == b.length) = true := beq_iff_eq.2 Hht_5.out
    replace H := ite_f H
    go_wp2_with fail
    go_loopg [5] (a.length) (fun m_ v5_ wr => ∃ (k0 : Nat) , k0 + m_ = a.length ∧ v5_ = .int .i64 (k0 : Int) ∧ Hid (cntK (l0 a b) m_ k0 () (e0 ) = some r) ∧ Hid (Below w.heap.size w wr))
    case atStart => exact ⟨0, by omega, rfl, H, HB⟩
    case round =>
      obtain ⟨k0, hkm0, rfl, H, HBwr0⟩ := hrel
      rename World => wr0
      cases gk with
      | zero =>
        obtain rfl : k0 = a.length := by omega
        have hc0 : decide (((a.length : Nat) : Int) < ((a.length : Nat) : Int)) = false := by simp
        replace H := cnt_zero H
        unfold e0 at H
        obtain rfl := ret_hid H
        go_wp2_with fail
        go_ret
        exact ⟨rfl, HBwr0.out⟩
      | succ m0 =>
        have hlt0 : k0 < a.length := by omega
        have hc0 : decide ((k0 : Int) < ((a.length : Nat) : Int)) = true := by simp; omega
        replace H := cnt_succ H
        unfold l0 at H
        go_wp2_with fail
        replace H := idx_hid H
        obtain ⟨nt_14, yt_14, et_14, lt_14, gt_14, H⟩ := H
        obtain rfl : k0 = nt_14 := by omega
        clear et_14
        obtain ⟨t_14_name, t_14_hue, t_14_width, t_14_dark, t_14_light⟩ := yt_14
        replace H := unShade_hid H
        obtain ⟨ab_t_14, ao_t_14, zt_14, At_14, z_t_14, ct_14_0, ct_14_1, ct_14_2, ct_14_3, ct_14_4⟩ := Go.Proofs.Ytpbbechgpgnpbaa.OShade.at_ M0.out lt_14
        obtain rfl := Option.some.inj (gt_14.out.symm.trans z_t_14)
        subst At_14
        have ltt_14 := cell_lt ct_14_0
        replace ct_14_0 := cell_below HBwr0.out ct_14_0
        replace ct_14_1 := cell_below HBwr0.out ct_14_1
        replace ct_14_2 := cell_below HBwr0.out ct_14_2
        replace ct_14_3 := cell_below HBwr0.out ct_14_3
        replace ct_14_4 := cell_below HBwr0.out ct_14_4
        clear z_t_14
        have b0t_14 : (0 : Int) ≤ (k0 : Int) := by omega
        have b1t_14 : (k0 : Int) < ((a.length : Nat) : Int) := by omega
        have b2t_14 : ((k0 : Int)).toNat = k0 := by omega
        have Hct_14_0 := Lib.hid ct_14_0
        replace ct_14_0 := cell_regrown ct_14_0
        have Hct_14_1 := Lib.hid ct_14_1
        replace ct_14_1 := cell_regrown ct_14_1
        have Hct_14_2 := Lib.hid ct_14_2
        replace ct_14_2 := cell_regrown ct_14_2
        have Hct_14_3 := Lib.hid ct_14_3
        replace ct_14_3 := cell_regrown ct_14_3
        have Hct_14_4 := Lib.hid ct_14_4
        replace ct_14_4 := cell_regrown ct_14_4
        replace H := idx_hid H
        obtain ⟨nt_18, yt_18, et_18, lt_18, gt_18, H⟩ := H
        obtain rfl : k0 = nt_18 := by omega
        clear et_18
        obtain ⟨t_18_name, t_18_hue, t_18_width, t_18_dark, t_18_light⟩ := yt_18
        replace H := unShade_hid H
        obtain ⟨ab_t_18, ao_t_18, zt_18, At_18, z_t_18, ct_18_0, ct_18_1, ct_18_2, ct_18_3, ct_18_4⟩ := Go.Proofs.Ytpbbechgpgnpbaa.OShade.at_ M1.out lt_18
        obtain rfl := Option.some.inj (gt_18.out.symm.trans z_t_18)
        subst At_18
        have ltt_18 := cell_lt ct_18_0
        replace ct_18_0 := cell_below HBwr0.out ct_18_0
        replace ct_18_1 := cell_below HBwr0.out ct_18_1
        replace ct_18_2 := cell_below HBwr0.out ct_18_2
        replace ct_18_3 := cell_below HBwr0.out ct_18_3
        replace ct_18_4 := cell_below HBwr0.out ct_18_4
        clear z_t_18
        have b0t_18 : (0 : Int) ≤ (k0 : Int) := by omega
        have b1t_18 : (k0 : Int) < ((b.length : Nat) : Int) := by omega
        have b2t_18 : ((k0 : Int)).toNat = k0 := by omega
        have Hct_18_0 := Lib.hid ct_18_0
        replace ct_18_0 := cell_regrown ct_18_0
        have Hct_18_1 := Lib.hid ct_18_1
        replace ct_18_1 := cell_regrown ct_18_1
        have Hct_18_2 := Lib.hid ct_18_2
        replace ct_18_2 := cell_regrown ct_18_2
        have Hct_18_3 := Lib.hid ct_18_3
        replace ct_18_3 := cell_regrown ct_18_3
        have Hct_18_4 := Lib.hid ct_18_4
        replace ct_18_4 := cell_regrown ct_18_4
        replace H := bind_hid H
        obtain ⟨t_20, qt_20, H⟩ := H
        have nt_20 : ∀ d os, Calls Try.prog 63 #[.agg #[.string t_14_name, .int .i64 t_14_hue, .int .i64 t_14_width, .int .i64 t_14_dark, .int .i64 t_14_light], .agg #[.string t_18_name, .int .i64 t_18_hue, .int .i64 t_18_width, .int .i64 t_18_dark, .int .i64 t_18_light]] (Go.Sort.grow (redrawn wr0 d) os) fun e w'' => e = .returned (.bool t_20) ∧ ∃ p : Regrown, w'' = Go.Sort.grow (redrawn wr0 p.d) p.os := fun d os => Calls.regrown_of (Go.Proofs.Ytpbbechgpgnpbaa.GlEqShade.C ((Go.Proofs.Ytpbbechgpgnpbaa.PShade.Shade.mk t_14_name t_14_hue t_14_width t_14_dark t_14_light)) ((Go.Proofs.Ytpbbechgpgnpbaa.PShade.Shade.mk t_18_name t_18_hue t_18_width t_18_dark t_18_light))  _    qt_20)
        cases t_20 with
        | false =>
          replace H := let_hid H
          obtain ⟨t_21, ht_21, H⟩ := H
          obtain rfl : t_21 = true := ht_21.symm
          refine wp_region_quiet_below (by kernel_rfl) (by kernel_rfl) ?_
          repeat (go_big_quiet_step (first | (go_at_call 63; exact nt_20 _ _)))
          refine wpQuiet_nil ?_
          intro Y6 hY6
          replace hY6 := below_class hY6
          clear nt_20
          replace ct_14_0 := Hct_14_0.out
          clear Hct_14_0
          replace ct_14_1 := Hct_14_1.out
          clear Hct_14_1
          replace ct_14_2 := Hct_14_2.out
          clear Hct_14_2
          replace ct_14_3 := Hct_14_3.out
          clear Hct_14_3
          replace ct_14_4 := Hct_14_4.out
          clear Hct_14_4
          replace ct_18_0 := Hct_18_0.out
          clear Hct_18_0
          replace ct_18_1 := Hct_18_1.out
          clear Hct_18_1
          replace ct_18_2 := Hct_18_2.out
          clear Hct_18_2
          replace ct_18_3 := Hct_18_3.out
          clear Hct_18_3
          replace ct_18_4 := Hct_18_4.out
          clear Hct_18_4
          have HBY6 := Lib.hid (Below.step HBwr0.out hY6)
          replace ct_14_0 := cell_below hY6 ct_14_0
          replace ct_14_1 := cell_below hY6 ct_14_1
          replace ct_14_2 := cell_below hY6 ct_14_2
          replace ct_14_3 := cell_below hY6 ct_14_3
          replace ct_14_4 := cell_below hY6 ct_14_4
          replace ct_18_0 := cell_below hY6 ct_18_0
          replace ct_18_1 := cell_below hY6 ct_18_1
          replace ct_18_2 := cell_below hY6 ct_18_2
          replace ct_18_3 := cell_below hY6 ct_18_3
          replace ct_18_4 := cell_below hY6 ct_18_4
          clear hY6
          replace H := ite_t H
          obtain rfl := ret_hid H
          go_wp2_with fail
          go_ret
          exact ⟨rfl, HBY6.out⟩
        | true =>
          replace H := let_hid H
          obtain ⟨t_21, ht_21, H⟩ := H
          obtain rfl : t_21 = false := ht_21.symm
          refine wp_region_quiet_below (by kernel_rfl) (by kernel_rfl) ?_
          repeat (go_big_quiet_step (first | (go_at_call 63; exact nt_20 _ _)))
          refine wpQuiet_nil ?_
          intro Y6 hY6
          replace hY6 := below_class hY6
          clear nt_20
          replace ct_14_0 := Hct_14_0.out
          clear Hct_14_0
          replace ct_14_1 := Hct_14_1.out
          clear Hct_14_1
          replace ct_14_2 := Hct_14_2.out
          clear Hct_14_2
          replace ct_14_3 := Hct_14_3.out
          clear Hct_14_3
          replace ct_14_4 := Hct_14_4.out
          clear Hct_14_4
          replace ct_18_0 := Hct_18_0.out
          clear Hct_18_0
          replace ct_18_1 := Hct_18_1.out
          clear Hct_18_1
          replace ct_18_2 := Hct_18_2.out
          clear Hct_18_2
          replace ct_18_3 := Hct_18_3.out
          clear Hct_18_3
          replace ct_18_4 := Hct_18_4.out
          clear Hct_18_4
          have HBY6 := Lib.hid (Below.step HBwr0.out hY6)
          replace ct_14_0 := cell_below hY6 ct_14_0
          replace ct_14_1 := cell_below hY6 ct_14_1
          replace ct_14_2 := cell_below hY6 ct_14_2
          replace ct_14_3 := cell_below hY6 ct_14_3
          replace ct_14_4 := cell_below hY6 ct_14_4
          replace ct_18_0 := cell_below hY6 ct_18_0
          replace ct_18_1 := cell_below hY6 ct_18_1
          replace ct_18_2 := cell_below hY6 ct_18_2
          replace ct_18_3 := cell_below hY6 ct_18_3
          replace ct_18_4 := cell_below hY6 ct_18_4
          clear hY6
          replace H := ite_f H
          replace H := app_hid H
          go_wp2_with fail
          go_roundg m0
          case measure => omega
          case rel => exact ⟨k0 + 1, by omega, by go_num, H, HBY6⟩
  | true =>
    have nht_5 : ¬ (a.length = b.length) := by have := bne_iff_ne.1 ht_5; omega
    replace H := ite_t H
    obtain rfl := ret_hid H
    go_wp2_with fail
    go_ret
    exact ⟨rfl, HB.out⟩
end Go.Proofs.Ytpbbechgpgnpbaa.GlEqShadeS

/- loop.example/g01062/laws.FnExactFreeColors as a plain function, and the contract of the program's: where the plain one has an answer, the program has it. Conditions: slices read as lists. -/
namespace Go.Proofs.Ytpbbechgpgnpbaa.GlFnExactFreeColors
set_option linter.unusedVariables false
set_option linter.unusedSimpArgs false
open Go.RowKit
open Go.Proofs.Ytpbbechgpgnpbaa.Rowed Go.Proofs.Ytpbbechgpgnpbaa.Turn Go.Proofs.Ytpbbechgpgnpbaa.Aid Go.Proofs.Ytpbbechgpgnpbaa.GoP Go.Proofs.Ytpbbechgpgnpbaa.GoM

def P (aList : (List Go.Proofs.Ytpbbechgpgnpbaa.PShade.Shade)) (aLight : Int) : Option (Bool) :=
  Option.bind (Go.Proofs.Ytpbbechgpgnpbaa.GlSzShadeS.P aList 1048576) fun (t_4 : Int) =>
  letK (decide (t_4 < 0)) fun (t_7 : Bool) =>
  iteK t_7
  (some true)
  (Option.bind (Go.Proofs.Ytpbbechgpgnpbaa.GlToShadeS.P aList) fun (t_10 : (List Go.Proofs.Ytpbbechgpgnpbaa.PShade.Shade)) =>
  bind2 (Go.Proofs.Ytpbbechgpgnpbaa.GsFreeColors.P t_10 aLight) fun (t_12a : Int) (t_12b : Bool) =>
  Option.bind (Go.Proofs.Ytpbbechgpgnpbaa.GlToShadeS.P aList) fun (t_19 : (List Go.Proofs.Ytpbbechgpgnpbaa.PShade.Shade)) =>
  bind2 (Go.Proofs.Ytpbbechgpgnpbaa.GiFreeColors.P t_19 aLight) fun (t_23a : Int) (t_23b : Bool) =>
  letK (t_23a != t_12a) fun (t_31 : Bool) =>
  joinK (fun (t_36 : Bool) =>
  iteK t_36
  (some false)
  (Option.bind (Go.Proofs.Ytpbbechgpgnpbaa.GlToShadeS.P aList) fun (t_40 : (List Go.Proofs.Ytpbbechgpgnpbaa.PShade.Shade)) =>
  Option.bind (Go.Proofs.Ytpbbechgpgnpbaa.GlEqShadeS.P t_19 t_40) fun (t_41 : Bool) =>
  letK (!t_41) fun (t_42 : Bool) =>
  iteK t_42
  (some false)
  (some true))) fun jt_36 => iteK t_31 (appK jt_36 true) (letK (!(t_23b == t_12b)) fun (t_35 : Bool) =>
  appK jt_36 t_35))

set_option maxRecDepth 100000 in
set_option maxHeartbeats 2000000 in
theorem C (aList : (List Go.Proofs.Ytpbbechgpgnpbaa.PShade.Shade)) (aLight : Int) (A0 : Option Addr) (c0 : Nat)  (w : World) (M0 : Hid (Cells w 5 A0 aList.length (Go.Proofs.Ytpbbechgpgnpbaa.PShade.flat aList))) (N0 : Hid (aList.length ≤ 9223372036854775807))  {r : Bool} (H : Hid (P aList aLight = some r)) :
    Calls Try.prog 11 #[.slice A0 aList.length c0, .int .i64 aLight] w (Gives (.bool r) w) := by
  have HB := Lib.hid (Below.refl w.heap.size w)
  unfold P at H
  have N0o := N0.out
  go_enter Try.func11, Try.ntmps11
  replace H := bind_hid H
  obtain ⟨t_4, qt_4, H⟩ := H
  go_wp2_with fail
  go_at_call 19
  refine (Go.Proofs.Ytpbbechgpgnpbaa.GlSzShadeS.C (aList) (1048576) A0 c0 _   (Lib.hid (Cells.below M0.out HB.out)) N0 qt_4).mono ?_
  rintro e_t_4 wt_4 ⟨rfl, bt_4⟩
  have HBwt_4 := Lib.hid (Below.step HB.out bt_4)
  clear bt_4
  replace H := let_hid H
  obtain ⟨t_7, ht_7, H⟩ := H
  cases t_7 with
  | false =>
    replace H := ite_f H
    replace H := bind_hid H
    obtain ⟨t_10, qt_10, H⟩ := H
    go_wp2_with fail
    go_at_call 21
    refine (Go.Proofs.Ytpbbechgpgnpbaa.GlToShadeS.C (aList) A0 c0 _   (Lib.hid (Cells.below M0.out HBwt_4.out)) N0 qt_10).mono ?_
    rintro e_t_10 wt_10 ⟨At_10, ct_10, rfl, ot_10, bt_10⟩
    have Ot_10 := Lib.hid (own_lower ot_10 HBwt_4.out.size)
    clear ot_10
    have HBwt_10 := Lib.hid (Below.step HBwt_4.out bt_10)
    clear bt_10
    replace H := bind2_hid H
    obtain ⟨t_12a, t_12b, qt_12, H⟩ := H
    go_wp2_with fail
    go_at_call 43
    refine (Go.Proofs.Ytpbbechgpgnpbaa.GsFreeColors.C (t_10) (aLight) At_10 ct_10 _   (Lib.hid (own_cells Ot_10.out)) (Lib.hid (own_max Ot_10.out)) qt_12).mono ?_
    rintro e_t_12 wt_12 ⟨rfl, bt_12⟩
    have HBwt_12 := Lib.hid (Below.step HBwt_10.out bt_12)
    replace Ot_10 := Lib.hid (own_below Ot_10.out bt_12)
    clear bt_12
    replace H := bind_hid H
    obtain ⟨t_19, qt_19, H⟩ := H
    go_wp2_with fail
    go_at_call 21
    refine (Go.Proofs.Ytpbbechgpgnpbaa.GlToShadeS.C (aList) A0 c0 _   (Lib.hid (Cells.below M0.out HBwt_12.out)) N0 qt_19).mono ?_
    rintro e_t_19 wt_19 ⟨At_19, ct_19, rfl, ot_19, bt_19⟩
    have Dt_19_t_10 := Lib.hid (apart_call ot_19 Ot_10.out)
    have Ot_19 := Lib.hid (own_lower ot_19 HBwt_12.out.size)
    clear ot_19
    have HBwt_19 := Lib.hid (Below.step HBwt_12.out bt_19)
    replace Ot_10 := Lib.hid (own_below Ot_10.out bt_19)
    clear bt_19
    replace H := bind2_hid H
    obtain ⟨t_23a, t_23b, qt_23, H⟩ := H
    go_wp2_with fail
    go_at_call 44
    refine (Go.Proofs.Ytpbbechgpgnpbaa.GiFreeColors.C (t_19) (aLight) At_19 ct_19 _   (Lib.hid (own_cells Ot_19.out)) (Lib.hid (own_max Ot_19.out)) qt_23).mono ?_
    rintro e_t_23 wt_23 ⟨rfl, bt_23⟩
    have HBwt_23 := Lib.hid (Below.step HBwt_19.out bt_23)
    replace Ot_10 := Lib.hid (own_below Ot_10.out bt_23)
    replace Ot_19 := Lib.hid (own_below Ot_19.out bt_23)
    clear bt_23
    replace H := let_hid H
    obtain ⟨t_31, ht_31, H⟩ := H
    replace H := join_hid H
    cases t_31 with
    | false =>
      replace H := ite_f H
      replace H := let_hid H
      obtain ⟨t_35, ht_35, H⟩ := H
      replace H := app_hid H
      cases t_35 with
      | false =>
        replace H := ite_f H
        replace H := bind_hid H
        obtain ⟨t_40, qt_40, H⟩ := H
        go_wp2_with fail
        go_at_call 21
        refine (Go.Proofs.Ytpbbechgpgnpbaa.GlToShadeS.C (aList) A0 c0 _   (Lib.hid (Cells.below M0.out HBwt_23.out)) N0 qt_40).mono ?_
        rintro e_t_40 wt_40 ⟨At_40, ct_40, rfl, ot_40, bt_40⟩
        have Dt_40_t_10 := Lib.hid (apart_call ot_40 Ot_10.out)
        have Dt_40_t_19 := Lib.hid (apart_call ot_40 Ot_19.out)
        have Ot_40 := Lib.hid (own_lower ot_40 HBwt_23.out.size)
        clear ot_40
        have HBwt_40 := Lib.hid (Below.step HBwt_23.out bt_40)
        replace Ot_10 := Lib.hid (own_below Ot_10.out bt_40)
        replace Ot_19 := Lib.hid (own_below Ot_19.out bt_40)
        clear bt_40
        replace H := bind_hid H
        obtain ⟨t_41, qt_41, H⟩ := H
        go_wp2_with fail
        go_at_call 23
        refine (Go.Proofs.Ytpbbechgpgnpbaa.GlEqShadeS.C (t_19) (t_40) At_19 ct_19 At_40 ct_40 _   (Lib.hid (own_cells Ot_19.out)) (Lib.hid (own_max Ot_19.out)) (Lib.hid (own_cells Ot_40.out)) (Lib.hid (own_max Ot_40.out)) qt_41).mono ?_
        rintro e_t_41 wt_41 ⟨rfl, bt_41⟩
        have HBwt_41 := Lib.hid (Below.step HBwt_40.out bt_41)
        replace Ot_10 := Lib.hid (own_below Ot_10.out bt_41)
        replace Ot_19 := Lib.hid (own_below Ot_19.out bt_41)
        replace Ot_40 := Lib.hid (own_below Ot_40.out bt_41)
        clear bt_41
        cases t_41 with
        | false =>
          replace H := let_hid H
          obtain ⟨t_42, ht_42, H⟩ := H
          obtain rfl : t_42 = true := ht_42.symm
          replace H := ite_t H
          obtain rfl := ret_hid H
          go_wp2_with fail
          go_ret
          exact ⟨rfl, HBwt_41.out⟩
        | true =>
          replace H := let_hid H
          obtain ⟨t_42, ht_42, H⟩ := H
          obtain rfl : t_42 = false := ht_42.symm
          replace H := ite_f H
          obtain rfl := ret_hid H
          go_wp2_with fail
          go_ret
          exact ⟨rfl, HBwt_41.out⟩
      | true =>
        replace H := ite_t H
        obtain rfl := ret_hid H
        go_wp2_with fail
        go_ret
        exact ⟨rfl, HBwt_23.out⟩
    | true =>
      replace H := ite_t H
      replace H := app_hid H
      replace H := ite_t H
      obtain rfl := ret_hid H
      go_wp2_with fail
      go_ret
      exact ⟨rfl, HBwt_23.out⟩
  | true =>
    replace H := ite_t H
    obtain rfl := ret_hid H
    go_wp2_with fail
    go_ret
    exact ⟨rfl, HBwt_4.out⟩
end Go.Proofs.Ytpbbechgpgnpbaa.GlFnExactFreeColors

/- Plain words on stamps: what a stamp is, when one is valid, when a list of them is; the cells of a list of records. No condition. -/
namespace Go.Proofs.Ytpbbechgpgnpbaa.PlainStamp
set_option linter.unusedVariables false

/-- a number lies in a..b -/
def inB (x a b : Int) : Bool := decide (a ≤ x ∧ x ≤ b)
theorem inB_yes {x a b : Int} (h1 : a ≤ x) (h2 : x ≤ b) : inB x a b = true := by unfold inB; exact decide_eq_true ⟨h1, h2⟩
theorem inB_of {x a b : Int} (h : inB x a b = true) : a ≤ x ∧ x ≤ b := by unfold inB at h; exact of_decide_eq_true h
theorem inB_no {x a b : Int} (h : x < a ∨ b < x) : inB x a b = false := by unfold inB; exact decide_eq_false (by omega)

structure St where
  id : Int
  face : Int
  color : Int
  year : Int
deriving DecidableEq

def St.cells (s : St) : List Value := [.int .i64 s.id, .int .i64 s.face, .int .i64 s.color, .int .i64 s.year]
def St.val (s : St) : Value := .agg #[.int .i64 s.id, .int .i64 s.face, .int .i64 s.color, .int .i64 s.year]
/-- each field fits an int -/
def St.fits (s : St) : Prop := (Lit.int .i64 s.id).wf = true ∧ (Lit.int .i64 s.face).wf = true ∧ (Lit.int .i64 s.color).wf = true ∧ (Lit.int .i64 s.year).wf = true

def okSt (s : St) : Bool := inB s.id 1 999 && inB s.face 0 9999 && inB s.color 0 99 && inB s.year 1840 2100
theorem okSt_yes {s : St} (h : okSt s = true) : (1 ≤ s.id ∧ s.id ≤ 999) ∧ (0 ≤ s.face ∧ s.face ≤ 9999) ∧ (0 ≤ s.color ∧ s.color ≤ 99) ∧ (1840 ≤ s.year ∧ s.year ≤ 2100) := by
  unfold okSt at h
  simp only [Bool.and_eq_true] at h
  exact ⟨inB_of h.1.1.1, inB_of h.1.1.2, inB_of h.1.2, inB_of h.2⟩

/-- the stamp at k is valid, and its id is above the one ahead of it -/
def okAt (l : List St) (k : Nat) : Bool :=
  match l[k]? with
  | none => true
  | some s => okSt s && (decide (k = 0) || (match l[k-1]? with | none => true | some r => decide (r.id < s.id)))
def okUp (l : List St) (k : Nat) : Bool := (List.range k).all (okAt l)
theorem okUp_zero (l : List St) : okUp l 0 = true := by simp [okUp]
theorem okUp_succ (l : List St) (k : Nat) : okUp l (k + 1) = (okUp l k && okAt l k) := by simp [okUp, List.range_succ, List.all_append]
theorem okUp_not {l : List St} {k n : Nat} (h : okAt l k = false) (hk : k < n) : okUp l n = false := by
  unfold okUp
  rw [Bool.eq_false_iff]
  intro hall
  have := List.all_eq_true.1 hall k (List.mem_range.2 hk)
  rw [h] at this; exact absurd this (by simp)
/-- a list of at most twelve valid stamps with rising ids -/
def okSts (l : List St) : Bool := decide (l.length ≤ 12) && okUp l l.length
theorem okAt_of {l : List St} {k : Nat} {s : St} (hs : l[k]? = some s) (h : okAt l k = true) : okSt s = true ∧ ∀ r, 0 < k → l[k-1]? = some r → r.id < s.id := by
  unfold okAt at h
  rw [hs] at h
  simp only [Bool.and_eq_true, Bool.or_eq_true, decide_eq_true_eq] at h
  refine ⟨h.1, fun r hk hr => ?_⟩
  rcases h.2 with h0 | h0
  · omega
  · rw [hr] at h0; simpa using h0
theorem okSts_len {l : List St} (h : okSts l = true) : l.length ≤ 12 := by unfold okSts at h; simp only [Bool.and_eq_true, decide_eq_true_eq] at h; exact h.1
theorem okSts_at {l : List St} (h : okSts l = true) {k : Nat} {s : St} (hs : l[k]? = some s) : okSt s = true ∧ ∀ r, 0 < k → l[k-1]? = some r → r.id < s.id := by
  unfold okSts at h
  simp only [Bool.and_eq_true, decide_eq_true_eq] at h
  exact okAt_of hs (List.all_eq_true.1 h.2 k (List.mem_range.2 (List.getElem?_eq_some_iff.1 hs).1))
theorem okSts_mem {l : List St} (h : okSts l = true) {s : St} (hs : s ∈ l) : okSt s = true := by
  obtain ⟨k, hk⟩ := List.getElem?_of_mem hs
  exact (okSts_at h hk).1

/-- the cells of a list of stamps, one after the other -/
def flat (l : List St) : List Value := l.flatMap St.cells
theorem flat_nil : flat [] = [] := rfl
theorem flat_cons (s : St) (l : List St) : flat (s :: l) = s.cells ++ flat l := by simp [flat]
theorem flat_len (l : List St) : (flat l).length = l.length * 4 := by
  induction l with
  | nil => rfl
  | cons s l ih => rw [flat_cons, List.length_append, ih]; simp [St.cells]; omega
theorem flat_at : ∀ (l : List St) (k : Nat) (s : St), l[k]? = some s → ∀ j, j < 4 → (flat l)[k * 4 + j]? = s.cells[j]?
  | [], k, s, h, _, _ => by simp at h
  | r :: l, 0, s, h, j, hj => by
    obtain rfl : r = s := by simpa using h
    rw [flat_cons, List.getElem?_append_left (by simp [St.cells]; omega)]; simp
  | r :: l, k + 1, s, h, j, hj => by
    rw [flat_cons, List.getElem?_append_right (by simp [St.cells]; omega), show (k + 1) * 4 + j - r.cells.length = k * 4 + j by simp [St.cells]; omega]
    exact flat_at l k s (by simpa using h) j hj
end Go.Proofs.Ytpbbechgpgnpbaa.PlainStamp

/- Words for reckoning with plain functions; within and l1In. No condition. -/
namespace Go.Proofs.Ytpbbechgpgnpbaa.QBase
set_option linter.unusedVariables false
set_option linter.unusedSimpArgs false
open Go.RowKit
open Go.Proofs.Ytpbbechgpgnpbaa.GoP Go.Proofs.Ytpbbechgpgnpbaa.PlainStamp

theorem iteK_if {ρ : Type} (c : Bool) (a b : Option ρ) : iteK c a b = if c = true then a else b := by cases c <;> rfl
theorem bind2_some {α β ρ : Type} (a : α) (b : β) (f : α → β → Option ρ) : bind2 (some (a, b)) f = f a b := rfl
theorem bind3_some {α β γ ρ : Type} (a : α) (b : β) (c : γ) (f : α → β → γ → Option ρ) : bind3 (some (a, b, c)) f = f a b c := rfl
theorem unp2_mk {α β ρ : Type} (a : α) (b : β) (f : α → β → Option ρ) : unp2 (a, b) f = f a b := rfl
theorem unp3_mk {α β γ ρ : Type} (a : α) (b : β) (c : γ) (f : α → β → γ → Option ρ) : unp3 (a, b, c) f = f a b c := rfl
theorem guardK_pos {ρ : Type} {p : Prop} [Decidable p] {a : Option ρ} (h : p) : guardK p a = a := if_pos h
theorem cut2 {α β : Type} {x : Option (α × β)} {p : α × β} (h : x = some p) : x = some (p.1, p.2) := h
theorem cut3 {α β γ : Type} {x : Option (α × β × γ)} {p : α × β × γ} (h : x = some p) : x = some (p.1, p.2.1, p.2.2) := h
theorem within_eq (n a b : Int) : GiWithin.P n a b = some (inB n a b) := by
  simp only [GiWithin.P, letK, joinK, appK, iteK_if, inB]
  by_cases h1 : a ≤ n <;> by_cases h2 : n ≤ b <;> simp [h1, h2]
theorem l1In_eq (n a b : Int) : GsL1In.P n a b = some (inB n a b) := by
  simp only [GsL1In.P, letK, joinK, appK, iteK_if, inB]
  by_cases h1 : a ≤ n <;> by_cases h2 : n ≤ b <;> simp [h1, h2]
end Go.Proofs.Ytpbbechgpgnpbaa.QBase

/- Reckoning with the loops of plain functions; lists of valid records with rising ids. No condition. -/
namespace Go.Proofs.Ytpbbechgpgnpbaa.QLoop
set_option linter.unusedVariables false
open Go.RowKit
open Go.Proofs.Ytpbbechgpgnpbaa.GoP Go.Proofs.Ytpbbechgpgnpbaa.QBase

theorem cnt_ex {σ ρ : Type} {f : Nat → σ → (σ → Option ρ) → (σ → Option ρ) → Option ρ} {fin : σ → Option ρ} {Q : ρ → Prop} {n : Nat} (I : Nat → σ → Prop)
    (step : ∀ k s nx, k < n → I k s → (∀ s', I (k + 1) s' → ∃ r, nx s' = some r ∧ Q r) → ∃ r, f k s nx fin = some r ∧ Q r) (done : ∀ s, I n s → ∃ r, fin s = some r ∧ Q r) :
    ∀ m k s, k + m = n → I k s → ∃ r, cntK f m k s fin = some r ∧ Q r := by
  intro m
  induction m with
  | zero => intro k s hk hI; obtain rfl : k = n := by omega
            exact done s hI
  | succ m ih => intro k s hk hI; exact step k s _ (by omega) hI (fun s' h' => ih (k + 1) s' (by omega) h')
theorem cnt_is {σ ρ : Type} {f : Nat → σ → (σ → Option ρ) → (σ → Option ρ) → Option ρ} {fin : σ → Option ρ} {n : Nat} (r : ρ) (I : Nat → σ → Prop)
    (step : ∀ k s nx, k < n → I k s → (∀ s', I (k + 1) s' → nx s' = some r) → f k s nx fin = some r) (done : ∀ s, I n s → fin s = some r) (s : σ) (h0 : I 0 s) : cntK f n 0 s fin = some r := by
  obtain ⟨r', h, rfl⟩ := cnt_ex (Q := fun x => x = r) I (fun k s nx hk hI hn => ⟨r, step k s nx hk hI (fun s' h' => by obtain ⟨_, h, rfl⟩ := hn s' h'; exact h), rfl⟩) (fun s h => ⟨r, done s h, rfl⟩) n 0 s (by omega) h0
  exact h
theorem at_lt {α : Type} {l : List α} {k : Nat} (h : k < l.length) : ∃ x, l[k]? = some x ∧ idx l (k : Int) = some x := ⟨l[k], List.getElem?_eq_getElem h, by rw [idx_nat, List.getElem?_eq_getElem h]⟩
theorem idx_pred {α : Type} {l : List α} {k : Nat} {x : α} (hk : 0 < k) (hb : k ≤ 9223372036854775807) (h : l[k - 1]? = some x) : idx l (IntKind.i64.wrap ((k : Int) - 1)) = some x := by
  rw [IntWalk.i64_in _ (by omega), show ((k : Int) - 1) = ((k - 1 : Nat) : Int) by omega, idx_nat, h]
theorem take_next {α : Type} {l : List α} {k : Nat} {x : α} (h : l[k]? = some x) : l.take (k + 1) = l.take k ++ [x] := by
  obtain ⟨hk, e⟩ := List.getElem?_eq_some_iff.1 h
  rw [List.take_succ_eq_append_getElem hk, e]
theorem all_next {α : Type} {p : α → Bool} {l : List α} {k : Nat} {x : α} (h : l[k]? = some x) : (l.take (k + 1)).all p = ((l.take k).all p && p x) := by
  rw [take_next h]; simp
theorem not_all {α : Type} {p : α → Bool} {l : List α} {k : Nat} {x : α} (h : l[k]? = some x) (hp : p x = false) : l.all p = false := by
  rw [Bool.eq_false_iff]
  intro ha
  have := List.all_eq_true.1 ha x (List.mem_of_getElem? h)
  rw [hp] at this; exact absurd this (by simp)
theorem wrap_in {x : Int} (h1 : -9223372036854775808 ≤ x) (h2 : x ≤ 9223372036854775807) : IntKind.i64.wrap x = x := IntWalk.i64_in _ (by omega)

/-- valid, and above the one ahead of it -/
def upAt {α : Type} (ok : α → Bool) (id : α → Int) (l : List α) (k : Nat) : Bool :=
  match l[k]? with
  | none => true
  | some s => ok s && (decide (k = 0) || (match l[k-1]? with | none => true | some r => decide (id r < id s)))
def upTo {α : Type} (ok : α → Bool) (id : α → Int) (l : List α) (k : Nat) : Bool := (List.range k).all (upAt ok id l)
theorem upTo_zero {α : Type} (ok : α → Bool) (id : α → Int) (l : List α) : upTo ok id l 0 = true := rfl
theorem upTo_succ {α : Type} (ok : α → Bool) (id : α → Int) (l : List α) (k : Nat) : upTo ok id l (k + 1) = (upTo ok id l k && upAt ok id l k) := by simp [upTo, List.range_succ, List.all_append]
theorem upTo_not {α : Type} {ok : α → Bool} {id : α → Int} {l : List α} {k n : Nat} (h : upAt ok id l k = false) (hk : k < n) : upTo ok id l n = false := by
  unfold upTo
  rw [Bool.eq_false_iff]
  intro ha
  have := List.all_eq_true.1 ha k (List.mem_range.2 hk)
  rw [h] at this; exact absurd this (by simp)
/-- a list of at most m valid records with rising ids -/
def upL {α : Type} (m : Nat) (ok : α → Bool) (id : α → Int) (l : List α) : Bool := decide (l.length ≤ m) && upTo ok id l l.length
theorem upAt_bad {α : Type} {ok : α → Bool} {id : α → Int} {l : List α} {k : Nat} {s : α} (hs : l[k]? = some s) (h : ok s = false) : upAt ok id l k = false := by unfold upAt; rw [hs]; simp [h]
theorem upAt_first {α : Type} {ok : α → Bool} {id : α → Int} {l : List α} {s : α} (hs : l[0]? = some s) (h : ok s = true) : upAt ok id l 0 = true := by unfold upAt; rw [hs]; simp [h]
theorem upAt_next {α : Type} {ok : α → Bool} {id : α → Int} {l : List α} {k : Nat} {s r : α} (hs : l[k]? = some s) (hr : l[k-1]? = some r) (hk : 0 < k) (h : ok s = true) : upAt ok id l k = decide (id r < id s) := by
  unfold upAt; rw [hs]; simp only [hr, h, Bool.true_and, decide_eq_false (show ¬ k = 0 by omega), Bool.false_or]
theorem upL_len {α : Type} {m : Nat} {ok : α → Bool} {id : α → Int} {l : List α} (h : upL m ok id l = true) : l.length ≤ m := by unfold upL at h; simp only [Bool.and_eq_true, decide_eq_true_eq] at h; exact h.1
theorem upL_ok {α : Type} {m : Nat} {ok : α → Bool} {id : α → Int} {l : List α} (h : upL m ok id l = true) {k : Nat} {s : α} (hs : l[k]? = some s) : ok s = true := by
  unfold upL at h
  simp only [Bool.and_eq_true, decide_eq_true_eq] at h
  have := List.all_eq_true.1 h.2 k (List.mem_range.2 (List.getElem?_eq_some_iff.1 hs).1)
  unfold upAt at this
  rw [hs] at this
  simp only [Bool.and_eq_true] at this
  exact this.1
theorem upL_mem {α : Type} {m : Nat} {ok : α → Bool} {id : α → Int} {l : List α} (h : upL m ok id l = true) {s : α} (hs : s ∈ l) : ok s = true := by
  obtain ⟨k, hk⟩ := List.getElem?_of_mem hs
  exact upL_ok h hk
/-- a loop that goes through a list of records and stops with 'false' at the first that is bad -/
theorem up_loop {α : Type} {ok : α → Bool} {id : α → Int} {l : List α} {R : Type} {no : R} {f : Nat → Unit → (Unit → Option R) → (Unit → Option R) → Option R} {fin : Unit → Option R}
    (step : ∀ k nx s, l[k]? = some s → (ok s = false → f k () nx fin = some no) ∧ (ok s = true → (k = 0 → f k () nx fin = nx ()) ∧ (0 < k → ∀ r, l[k-1]? = some r → (id r < id s → f k () nx fin = nx ()) ∧ (id s ≤ id r → f k () nx fin = some no)))) :
    cntK f l.length 0 () fin = if upTo ok id l l.length then fin () else some no := by
  have key : ∀ m k, k + m = l.length → upTo ok id l k = true → cntK f m k () fin = if upTo ok id l l.length then fin () else some no := by
    intro m
    induction m with
    | zero => intro k hk hu; obtain rfl : k = l.length := by omega
              rw [hu]; rfl
    | succ m ih =>
      intro k hk hu
      have hlt : k < l.length := by omega
      obtain ⟨s, hs, _⟩ := at_lt hlt
      obtain ⟨h1, h2⟩ := step k (fun s' => cntK f m (k + 1) s' fin) s hs
      show f k () _ fin = _
      cases hok : ok s with
      | false => rw [h1 hok, upTo_not (upAt_bad hs hok) hlt]; rfl
      | true =>
        obtain ⟨h3, h4⟩ := h2 hok
        by_cases hk0 : k = 0
        · rw [h3 hk0]
          subst hk0
          exact ih 1 (by omega) (by rw [upTo_succ, hu, upAt_first hs hok]; rfl)
        · obtain ⟨r, hr, _⟩ := at_lt (l := l) (k := k - 1) (by omega)
          obtain ⟨h5, h6⟩ := h4 (by omega) r hr
          by_cases hlt2 : id r < id s
          · rw [h5 hlt2]
            exact ih (k + 1) (by omega) (by rw [upTo_succ, hu, upAt_next hs hr (by omega) hok]; simpa using hlt2)
          · rw [h6 (by omega), upTo_not (by rw [upAt_next hs hr (by omega) hok]; simpa using hlt2) hlt]; rfl
  exact key l.length 0 (by omega) (upTo_zero ok id l)
end Go.Proofs.Ytpbbechgpgnpbaa.QLoop

/- Lists of valid records in strictly rising order of any kind; texts in the order of their bytes. (QOrd) No condition but those of each theorem. -/
namespace Go.Proofs.Ytpbbechgpgnpbaa.QOrd
set_option linter.unusedVariables false
set_option linter.unusedSimpArgs false
open Go.RowKit
open Go.Proofs.Ytpbbechgpgnpbaa.GoP Go.Proofs.Ytpbbechgpgnpbaa.PlainStamp Go.Proofs.Ytpbbechgpgnpbaa.QBase Go.Proofs.Ytpbbechgpgnpbaa.QLoop

/-- texts in the order of their bytes -/
def bl (a b : ByteArray) : Bool := Op.bytesLess a.toList b.toList
theorem bl_self' : ∀ x, Op.bytesLess x x = false
  | [] => rfl
  | a :: x => by
    have h1 : ¬ a < a := fun k => by rw [UInt8.lt_iff_toNat_lt] at k; omega
    simp [Op.bytesLess, h1, bl_self' x]
theorem bl_total' : ∀ x y, x ≠ y → Op.bytesLess x y = !(Op.bytesLess y x)
  | [], [], h => absurd rfl h
  | [], b :: y, _ => by simp [Op.bytesLess]
  | a :: x, [], _ => by simp [Op.bytesLess]
  | a :: x, b :: y, h => by
    by_cases hab : a = b
    · subst hab
      have h1 : ¬ a < a := fun k => by rw [UInt8.lt_iff_toNat_lt] at k; omega
      have := bl_total' x y (fun e => h (by rw [e]))
      simp [Op.bytesLess, h1, this]
    · have hne : a.toNat ≠ b.toNat := fun e => hab (UInt8.toNat_inj.1 e)
      by_cases hlt : a < b
      · have h2 : ¬ b < a := fun k => by rw [UInt8.lt_iff_toNat_lt] at k hlt; omega
        simp [Op.bytesLess, hlt, h2, Ne.symm hab]
      · have h2 : b < a := by rw [UInt8.lt_iff_toNat_lt] at hlt ⊢; omega
        simp [Op.bytesLess, hlt, h2, hab]
theorem bl_trans' : ∀ x y z, Op.bytesLess x y = true → Op.bytesLess y z = true → Op.bytesLess x z = true
  | [], _, [], h1, h2 => by rename_i y; cases y <;> simp [Op.bytesLess] at h1 h2
  | [], _, c :: z, _, _ => by simp [Op.bytesLess]
  | a :: x, [], _, h1, _ => by simp [Op.bytesLess] at h1
  | a :: x, b :: y, [], _, h2 => by simp [Op.bytesLess] at h2
  | a :: x, b :: y, c :: z, h1, h2 => by
    simp only [Op.bytesLess, Bool.or_eq_true, decide_eq_true_eq, Bool.and_eq_true, beq_iff_eq] at h1 h2 ⊢
    rcases h1 with h1 | ⟨rfl, h1⟩
    · rcases h2 with h2 | ⟨rfl, h2⟩
      · left; rw [UInt8.lt_iff_toNat_lt] at h1 h2 ⊢; omega
      · left; exact h1
    · rcases h2 with h2 | ⟨rfl, h2⟩
      · left; exact h2
      · right; exact ⟨rfl, bl_trans' x y z h1 h2⟩
theorem list_inj {a b : ByteArray} (h : a.toList = b.toList) : a = b := by
  rw [Lib.toList_data, Lib.toList_data] at h
  cases a; cases b; congr 1; exact Array.toList_inj.1 h
theorem bl_self (a : ByteArray) : bl a a = false := bl_self' _
theorem bl_total {a b : ByteArray} (h : a ≠ b) : bl a b = !(bl b a) := bl_total' _ _ (fun e => h (list_inj e))
theorem bl_trans {a b c : ByteArray} (h1 : bl a b = true) (h2 : bl b c = true) : bl a c = true := bl_trans' _ _ _ h1 h2
theorem bl_asymm {a b : ByteArray} (h : bl a b = true) : bl b a = false := by
  by_cases e : a = b
  · rw [e]; exact bl_self b
  · rw [bl_total e] at h; simpa using h
theorem bl_ne {a b : ByteArray} (h : bl a b = true) : a ≠ b := fun e => by rw [e, bl_self] at h; exact absurd h (by simp)
/-- 'not above', as the program asks it -/
theorem bl_le (a b : ByteArray) : (Op.bytesLess a.toList b.toList || a.toList == b.toList) = !(bl b a) := by
  by_cases e : a = b
  · subst e; rw [bl_self]; simp
  · have h1 : (a.toList == b.toList) = false := by rw [beq_eq_false_iff_ne]; exact fun h => e (list_inj h)
    rw [h1, Bool.or_false]; exact bl_total e
theorem bl_lt (a b : ByteArray) : Op.bytesLess a.toList b.toList = bl a b := rfl
theorem eq_list (a b : ByteArray) : (a.toList == b.toList) = decide (a = b) := by
  by_cases e : a = b
  · subst e; simp
  · rw [decide_eq_false e, beq_eq_false_iff_ne]; exact fun h => e (list_inj h)

/-- valid, and behind the one ahead of it -/
def riseAt {α : Type} (ok : α → Bool) (lt : α → α → Bool) (l : List α) (k : Nat) : Bool :=
  match l[k]? with
  | none => true
  | some s => ok s && (decide (k = 0) || (match l[k-1]? with | none => true | some r => lt r s))
def riseTo {α : Type} (ok : α → Bool) (lt : α → α → Bool) (l : List α) (k : Nat) : Bool := (List.range k).all (riseAt ok lt l)
theorem riseTo_zero {α : Type} (ok : α → Bool) (lt : α → α → Bool) (l : List α) : riseTo ok lt l 0 = true := rfl
theorem riseTo_succ {α : Type} (ok : α → Bool) (lt : α → α → Bool) (l : List α) (k : Nat) : riseTo ok lt l (k + 1) = (riseTo ok lt l k && riseAt ok lt l k) := by simp [riseTo, List.range_succ, List.all_append]
theorem riseTo_not {α : Type} {ok : α → Bool} {lt : α → α → Bool} {l : List α} {k n : Nat} (h : riseAt ok lt l k = false) (hk : k < n) : riseTo ok lt l n = false := by
  unfold riseTo
  rw [Bool.eq_false_iff]
  intro ha
  have := List.all_eq_true.1 ha k (List.mem_range.2 hk)
  rw [h] at this; exact absurd this (by simp)
def riseL {α : Type} (m : Nat) (ok : α → Bool) (lt : α → α → Bool) (l : List α) : Bool := decide (l.length ≤ m) && riseTo ok lt l l.length
theorem riseAt_bad {α : Type} {ok : α → Bool} {lt : α → α → Bool} {l : List α} {k : Nat} {s : α} (hs : l[k]? = some s) (h : ok s = false) : riseAt ok lt l k = false := by unfold riseAt; rw [hs]; simp [h]
theorem riseAt_first {α : Type} {ok : α → Bool} {lt : α → α → Bool} {l : List α} {s : α} (hs : l[0]? = some s) (h : ok s = true) : riseAt ok lt l 0 = true := by unfold riseAt; rw [hs]; simp [h]
theorem riseAt_next {α : Type} {ok : α → Bool} {lt : α → α → Bool} {l : List α} {k : Nat} {s r : α} (hs : l[k]? = some s) (hr : l[k-1]? = some r) (hk : 0 < k) (h : ok s = true) : riseAt ok lt l k = lt r s := by
  unfold riseAt; rw [hs]; simp only [hr, h, Bool.true_and, decide_eq_false (show ¬ k = 0 by omega), Bool.false_or]
theorem riseL_len {α : Type} {m : Nat} {ok : α → Bool} {lt : α → α → Bool} {l : List α} (h : riseL m ok lt l = true) : l.length ≤ m := by unfold riseL at h; simp only [Bool.and_eq_true, decide_eq_true_eq] at h; exact h.1
theorem riseTo_at {α : Type} {ok : α → Bool} {lt : α → α → Bool} {l : List α} {n : Nat} (h : riseTo ok lt l n = true) {k : Nat} (hk : k < n) : riseAt ok lt l k = true := List.all_eq_true.1 h k (List.mem_range.2 hk)
theorem riseL_ok {α : Type} {m : Nat} {ok : α → Bool} {lt : α → α → Bool} {l : List α} (h : riseL m ok lt l = true) {k : Nat} {s : α} (hs : l[k]? = some s) : ok s = true := by
  unfold riseL at h
  simp only [Bool.and_eq_true, decide_eq_true_eq] at h
  have := riseTo_at h.2 (List.getElem?_eq_some_iff.1 hs).1
  unfold riseAt at this
  rw [hs] at this
  simp only [Bool.and_eq_true] at this
  exact this.1
theorem riseL_mem {α : Type} {m : Nat} {ok : α → Bool} {lt : α → α → Bool} {l : List α} (h : riseL m ok lt l = true) {s : α} (hs : s ∈ l) : ok s = true := by
  obtain ⟨k, hk⟩ := List.getElem?_of_mem hs
  exact riseL_ok h hk
theorem riseL_step {α : Type} {m : Nat} {ok : α → Bool} {lt : α → α → Bool} {l : List α} (h : riseL m ok lt l = true) {k : Nat} {x y : α} (hx : l[k]? = some x) (hy : l[k + 1]? = some y) : lt x y = true := by
  unfold riseL at h
  simp only [Bool.and_eq_true, decide_eq_true_eq] at h
  have := riseTo_at h.2 (List.getElem?_eq_some_iff.1 hy).1
  unfold riseAt at this
  rw [hy] at this
  simp only [Nat.add_sub_cancel, hx, Bool.and_eq_true, Bool.or_eq_true, decide_eq_true_eq] at this
  rcases this.2 with h0 | h0
  · omega
  · exact h0
theorem riseL_lt {α : Type} {m : Nat} {ok : α → Bool} {lt : α → α → Bool} (tr : ∀ a b c, lt a b = true → lt b c = true → lt a c = true) {l : List α} (h : riseL m ok lt l = true) {i j : Nat} {x y : α} (hij : i < j) (hx : l[i]? = some x) (hy : l[j]? = some y) : lt x y = true := by
  obtain ⟨d, rfl⟩ : ∃ d, j = i + d + 1 := ⟨j - i - 1, by omega⟩
  clear hij
  induction d generalizing y with
  | zero => exact riseL_step h hx hy
  | succ d ih =>
    obtain ⟨z, hz, _⟩ := at_lt (l := l) (k := i + d + 1) (by have := (List.getElem?_eq_some_iff.1 hy).1; omega)
    exact tr _ _ _ (ih hz) (riseL_step (k := i + d + 1) h hz (by rw [← hy]; rfl))
/-- a loop that goes through a list of records and stops with 'no' at the first that is bad -/
theorem rise_loop {α : Type} {ok : α → Bool} {lt : α → α → Bool} {l : List α} {R : Type} {no : R} {f : Nat → Unit → (Unit → Option R) → (Unit → Option R) → Option R} {fin : Unit → Option R}
    (step : ∀ k nx s, l[k]? = some s → (ok s = false → f k () nx fin = some no) ∧ (ok s = true → (k = 0 → f k () nx fin = nx ()) ∧ (0 < k → ∀ r, l[k-1]? = some r → (lt r s = true → f k () nx fin = nx ()) ∧ (lt r s = false → f k () nx fin = some no)))) :
    cntK f l.length 0 () fin = if riseTo ok lt l l.length then fin () else some no := by
  have key : ∀ m k, k + m = l.length → riseTo ok lt l k = true → cntK f m k () fin = if riseTo ok lt l l.length then fin () else some no := by
    intro m
    induction m with
    | zero => intro k hk hu; obtain rfl : k = l.length := by omega
              rw [hu]; rfl
    | succ m ih =>
      intro k hk hu
      have hlt : k < l.length := by omega
      obtain ⟨s, hs, _⟩ := at_lt hlt
      obtain ⟨h1, h2⟩ := step k (fun s' => cntK f m (k + 1) s' fin) s hs
      show f k () _ fin = _
      cases hok : ok s with
      | false => rw [h1 hok, riseTo_not (riseAt_bad hs hok) hlt]; rfl
      | true =>
        obtain ⟨h3, h4⟩ := h2 hok
        by_cases hk0 : k = 0
        · rw [h3 hk0]
          subst hk0
          exact ih 1 (by omega) (by rw [riseTo_succ, hu, riseAt_first hs hok]; rfl)
        · obtain ⟨r, hr, _⟩ := at_lt (l := l) (k := k - 1) (by omega)
          obtain ⟨h5, h6⟩ := h4 (by omega) r hr
          cases hl : lt r s with
          | true =>
            rw [h5 hl]
            exact ih (k + 1) (by omega) (by rw [riseTo_succ, hu, riseAt_next hs hr (by omega) hok, hl]; rfl)
          | false => rw [h6 hl, riseTo_not (by rw [riseAt_next hs hr (by omega) hok, hl]) hlt]; rfl
  exact key l.length 0 (by omega) (riseTo_zero ok lt l)
end Go.Proofs.Ytpbbechgpgnpbaa.QOrd

/- Loops that count, that search, and that gather behind what is there already: the plain loops' answers. (QCount) No condition but those of each theorem. -/
namespace Go.Proofs.Ytpbbechgpgnpbaa.QCount
set_option linter.unusedVariables false
set_option linter.unusedSimpArgs false
open Go.RowKit
open Go.Proofs.Ytpbbechgpgnpbaa.GoP Go.Proofs.Ytpbbechgpgnpbaa.PlainStamp Go.Proofs.Ytpbbechgpgnpbaa.QBase Go.Proofs.Ytpbbechgpgnpbaa.QLoop

theorem count_list {α R : Type} {l : List α} {p : α → Bool} {f : Nat → Int → (Int → Option R) → (Int → Option R) → Option R} {fin : Int → Option R}
    (step : ∀ k nx x (s : Nat), l[k]? = some x → s ≤ k → f k (s : Int) nx fin = nx ((if p x = true then s + 1 else s : Nat) : Int)) : cntK f l.length 0 0 fin = fin ((l.filter p).length : Int) := by
  have key : ∀ m k, k + m = l.length → cntK f m k (((l.take k).filter p).length : Int) fin = fin ((l.filter p).length : Int) := by
    intro m
    induction m with
    | zero => intro k hk; obtain rfl : k = l.length := by omega
              rw [List.take_of_length_le (Nat.le_refl _)]; rfl
    | succ m ih =>
      intro k hk
      obtain ⟨x, hx, _⟩ := at_lt (l := l) (k := k) (by omega)
      show f k _ _ fin = _
      have hle : ((l.take k).filter p).length ≤ k := by
        have := List.length_filter_le p (l.take k)
        rw [List.length_take] at this
        omega
      rw [step k _ x _ hx hle, ← ih (k + 1) (by omega), take_next hx, List.filter_append, List.length_append]
      cases hp : p x <;> simp [List.filter, hp]
  exact key l.length 0 (by omega)
theorem count_up {R : Type} {n : Nat} {p : Nat → Bool} {f : Nat → Int → (Int → Option R) → (Int → Option R) → Option R} {fin : Int → Option R}
    (step : ∀ k nx (s : Nat), k < n → s ≤ k → f k (s : Int) nx fin = nx ((if p k = true then s + 1 else s : Nat) : Int)) : cntK f n 0 0 fin = fin (((List.range n).filter p).length : Int) := by
  have h := count_list (l := List.range n) (p := p) (f := f) (fin := fin) (fun k nx x s hx hs => by
    obtain ⟨hk, rfl⟩ := List.getElem?_eq_some_iff.1 hx
    rw [List.length_range] at hk
    rw [List.getElem_range]
    exact step k nx s hk hs)
  rw [List.length_range] at h
  exact h
theorem filter_zero {α : Type} (l : List α) (p : α → Bool) : (((l.filter p).length : Int) == 0) = !(l.any p) := by
  rw [Bool.eq_iff_iff]
  simp only [beq_iff_eq, Bool.not_eq_true', List.any_eq_false]
  constructor
  · intro h x hx hp
    have : x ∈ l.filter p := List.mem_filter.2 ⟨hx, hp⟩
    have := List.length_pos_of_mem this
    omega
  · intro h
    have : l.filter p = [] := List.filter_eq_nil_iff.2 h
    rw [this]; rfl
/-- the first place at which the test holds -/
def firstI {α : Type} (p : α → Bool) (l : List α) : Int := match l.findIdx? p with | some i => (i : Int) | none => -1
theorem find_loop {α R : Type} {l : List α} {p : α → Bool} {f : Nat → Unit → (Unit → Option R) → (Unit → Option R) → Option R} {fin : Unit → Option R} {yes : Nat → Option R}
    (step : ∀ k nx x, l[k]? = some x → f k () nx fin = if p x = true then yes k else nx ()) : cntK f l.length 0 () fin = match l.findIdx? p with | some i => yes i | none => fin () := by
  have key : ∀ m k, k + m = l.length → (∀ i x, i < k → l[i]? = some x → p x = false) → cntK f m k () fin = match l.findIdx? p with | some i => yes i | none => fin () := by
    intro m
    induction m with
    | zero =>
      intro k hk hu; obtain rfl : k = l.length := by omega
      have : l.findIdx? p = none := by
        rw [List.findIdx?_eq_none_iff]
        intro x hx
        obtain ⟨i, hi⟩ := List.getElem?_of_mem hx
        exact hu i x (List.getElem?_eq_some_iff.1 hi).1 hi
      rw [this]; rfl
    | succ m ih =>
      intro k hk hu
      obtain ⟨x, hx, _⟩ := at_lt (l := l) (k := k) (by omega)
      show f k () _ fin = _
      rw [step k _ x hx]
      cases hp : p x with
      | true =>
        have : l.findIdx? p = some k := by
          rw [List.findIdx?_eq_some_iff_getElem]
          obtain ⟨hlt, e⟩ := List.getElem?_eq_some_iff.1 hx
          refine ⟨hlt, by rw [e]; exact hp, fun j hj => ?_⟩
          rw [hu j l[j] hj (List.getElem?_eq_getElem (by omega))]; simp
        rw [this, if_pos rfl]
      | false =>
        rw [if_neg (by simp)]
        refine ih (k + 1) (by omega) (fun i y hi hy => ?_)
        by_cases he : i = k
        · subst he; rw [hx] at hy; obtain rfl := Option.some.inj hy; exact hp
        · exact hu i y (by omega) hy
  exact key l.length 0 (by omega) (fun i x hi _ => by omega)
theorem any_find {α : Type} (p : α → Bool) (l : List α) : decide (0 ≤ firstI p l) = l.any p := by
  unfold firstI
  cases h : l.findIdx? p with
  | none =>
    rw [List.findIdx?_eq_none_iff] at h
    have : l.any p = false := by rw [List.any_eq_false]; intro x hx; rw [h x hx]; simp
    rw [this]; rfl
  | some i =>
    rw [List.findIdx?_eq_some_iff_getElem] at h
    obtain ⟨hi, hp, _⟩ := h
    have : l.any p = true := List.any_eq_true.2 ⟨l[i], List.getElem_mem hi, hp⟩
    rw [this]; simp
theorem gatherA {α β R : Type} {l : List α} {p : α → Bool} {g : α → β} {acc : List β} {f : Nat → List β → (List β → Option R) → (List β → Option R) → Option R} {fin : List β → Option R} (hl : acc.length + l.length ≤ 1099511627776)
    (step : ∀ k nx x s, l[k]? = some x → s.length ≤ 1099511627776 → f k s nx fin = nx (if p x = true then s ++ [g x] else s)) : cntK f l.length 0 acc fin = fin (acc ++ (l.filter p).map g) := by
  have key : ∀ m k, k + m = l.length → cntK f m k (acc ++ ((l.take k).filter p).map g) fin = fin (acc ++ (l.filter p).map g) := by
    intro m
    induction m with
    | zero => intro k hk; obtain rfl : k = l.length := by omega
              rw [List.take_of_length_le (Nat.le_refl _)]; rfl
    | succ m ih =>
      intro k hk
      obtain ⟨x, hx, _⟩ := at_lt (l := l) (k := k) (by omega)
      show f k _ _ fin = _
      have hle : (acc ++ ((l.take k).filter p).map g).length ≤ 1099511627776 := by
        rw [List.length_append, List.length_map]
        have := List.length_filter_le p (l.take k)
        rw [List.length_take] at this
        omega
      rw [step k _ x _ hx hle, ← ih (k + 1) (by omega), take_next hx, List.filter_append, List.map_append]
      cases hp : p x <;> simp [List.filter, hp]
  have h0 := key l.length 0 (by omega)
  simpa using h0
/-- a loop with fuel over what stands from k on -/
theorem gatherL {α β R : Type} {l : List α} {p : α → Bool} {g : α → β} {f : List β × Int → (List β × Int → Option R) → (List β × Int → Option R) → Option R} {fin : List β × Int → Option R}
    (step : ∀ (k : Nat) nx x s, l[k]? = some x → s.length ≤ 1099511627776 → f (s, (k : Int)) nx fin = nx (if p x = true then s ++ [g x] else s, ((k + 1 : Nat) : Int)))
    (stop : ∀ s nx, f (s, (l.length : Int)) nx fin = fin (s, (l.length : Int))) : ∀ (fuel k : Nat) (acc : List β), k ≤ l.length → l.length - k < fuel → acc.length + l.length ≤ 1099511627776 + k → loopK f fuel (acc, (k : Int)) fin = fin (acc ++ ((l.drop k).filter p).map g, (l.length : Int)) := by
  intro fuel
  induction fuel with
  | zero => intro k acc hk hf; omega
  | succ m ih =>
    intro k acc hk hf ha
    show f (acc, (k : Int)) _ fin = _
    by_cases he : k = l.length
    · subst he; rw [stop, List.drop_of_length_le (Nat.le_refl _)]; simp
    · obtain ⟨x, hx, _⟩ := at_lt (l := l) (k := k) (by omega)
      rw [step k _ x acc hx (by omega), ih (k + 1) _ (by omega) (by omega) (by
        split
        · rw [List.length_append, List.length_singleton]; omega
        · omega)]
      obtain ⟨hlt, e⟩ := List.getElem?_eq_some_iff.1 hx
      rw [List.drop_eq_getElem_cons hlt, e]
      cases hp : p x <;> simp [List.filter, hp]
end Go.Proofs.Ytpbbechgpgnpbaa.QCount

/- loop.example/g01062/impl.HueDistance as a plain function, and the contract of the program's: where the plain one has an answer, the program has it. Conditions: slices read as lists. -/
namespace Go.Proofs.Ytpbbechgpgnpbaa.GiHueDistance
set_option linter.unusedVariables false
set_option linter.unusedSimpArgs false
open Go.RowKit
open Go.Proofs.Ytpbbechgpgnpbaa.Rowed Go.Proofs.Ytpbbechgpgnpbaa.Turn Go.Proofs.Ytpbbechgpgnpbaa.Aid Go.Proofs.Ytpbbechgpgnpbaa.GoP Go.Proofs.Ytpbbechgpgnpbaa.GoM

def P (a : Int) (b : Int) : Option (Int × Bool) :=
  Option.bind (Go.Proofs.Ytpbbechgpgnpbaa.GiIsHue.P a) fun (t_3 : Bool) =>
  letK (!t_3) fun (t_4 : Bool) =>
  joinK (fun (t_9 : Bool) =>
  iteK t_9
  (some (0, false))
  (Option.bind (Go.Proofs.Ytpbbechgpgnpbaa.GiLoHueDistance.P a b) fun (t_14 : Int) =>
  some (t_14, true))) fun jt_9 => iteK t_4 (appK jt_9 true) (Option.bind (Go.Proofs.Ytpbbechgpgnpbaa.GiIsHue.P b) fun (t_7 : Bool) =>
  letK (!t_7) fun (t_8 : Bool) =>
  appK jt_9 t_8)

set_option maxRecDepth 100000 in
set_option maxHeartbeats 2000000 in
theorem C (a : Int) (b : Int)   (w : World)   {r0 : Int} {r1 : Bool} (H : Hid (P a b = some (r0, r1))) :
    Calls Try.prog 25 #[.int .i64 a, .int .i64 b] w (Gives (.tuple #[.int .i64 r0, .bool r1]) w) := by
  have HB := Lib.hid (Below.refl w.heap.size w)
  unfold P at H
  go_enter Try.func25, Try.ntmps25
  replace H := bind_hid H
  obtain ⟨t_3, qt_3, H⟩ := H
  go_wp2_with fail
  go_at_call 57
  refine (Go.Proofs.Ytpbbechgpgnpbaa.GiIsHue.C (a)  _    qt_3).mono ?_
  rintro e_t_3 wt_3 ⟨rfl, bt_3⟩
  have HBwt_3 := Lib.hid (Below.step HB.out bt_3)
  clear bt_3
  cases t_3 with
  | false =>
    replace H := let_hid H
    obtain ⟨t_4, ht_4, H⟩ := H
    obtain rfl : t_4 = true := ht_4.symm
    replace H := join_hid H
    replace H := ite_t H
    replace H := app_hid H
    replace H := ite_t H
    cases ret_hid H
    go_wp2_with fail
    go_ret2
    exact ⟨rfl, HBwt_3.out⟩
  | true =>
    replace H := let_hid H
    obtain ⟨t_4, ht_4, H⟩ := H
    obtain rfl : t_4 = false := ht_4.symm
    replace H := join_hid H
    replace H := ite_f H
    replace H := bind_hid H
    obtain ⟨t_7, qt_7, H⟩ := H
    go_wp2_with fail
    go_at_call 57
    refine (Go.Proofs.Ytpbbechgpgnpbaa.GiIsHue.C (b)  _    qt_7).mono ?_
    rintro e_t_7 wt_7 ⟨rfl, bt_7⟩
    have HBwt_7 := Lib.hid (Below.step HBwt_3.out bt_7)
    clear bt_7
    cases t_7 with
    | false =>
      replace H := let_hid H
      obtain ⟨t_8, ht_8, H⟩ := H
      obtain rfl : t_8 = true := ht_8.symm
      replace H := app_hid H
      replace H := ite_t H
      cases ret_hid H
      go_wp2_with fail
      go_ret2
      exact ⟨rfl, HBwt_7.out⟩
    | true =>
      replace H := let_hid H
      obtain ⟨t_8, ht_8, H⟩ := H
      obtain rfl : t_8 = false := ht_8.symm
      replace H := app_hid H
      replace H := ite_f H
      replace H := bind_hid H
      obtain ⟨t_14, qt_14, H⟩ := H
      go_wp2_with fail
      go_at_call 66
      refine (Go.Proofs.Ytpbbechgpgnpbaa.GiLoHueDistance.C (a) (b)  _    qt_14).mono ?_
      rintro e_t_14 wt_14 ⟨rfl, bt_14⟩
      have HBwt_14 := Lib.hid (Below.step HBwt_7.out bt_14)
      clear bt_14
      cases ret_hid H
      go_wp2_with fail
      go_ret2
      exact ⟨rfl, HBwt_14.out⟩
end Go.Proofs.Ytpbbechgpgnpbaa.GiHueDistance

/- loop.example/g01062/spec.HueDistance as a plain function, and the contract of the program's: where the plain one has an answer, the program has it. Conditions: slices read as lists. -/
namespace Go.Proofs.Ytpbbechgpgnpbaa.GsHueDistance
set_option linter.unusedVariables false
set_option linter.unusedSimpArgs false
open Go.RowKit
open Go.Proofs.Ytpbbechgpgnpbaa.Rowed Go.Proofs.Ytpbbechgpgnpbaa.Turn Go.Proofs.Ytpbbechgpgnpbaa.Aid Go.Proofs.Ytpbbechgpgnpbaa.GoP Go.Proofs.Ytpbbechgpgnpbaa.GoM

def P (a : Int) (b : Int) : Option (Int × Bool) :=
  Option.bind (Go.Proofs.Ytpbbechgpgnpbaa.GsL7Hue.P a) fun (t_3 : Bool) =>
  letK (!t_3) fun (t_4 : Bool) =>
  joinK (fun (t_9 : Bool) =>
  iteK t_9
  (some (0, false))
  (Option.bind (Go.Proofs.Ytpbbechgpgnpbaa.GsL7Far.P a b) fun (t_14 : Int) =>
  some (t_14, true))) fun jt_9 => iteK t_4 (appK jt_9 true) (Option.bind (Go.Proofs.Ytpbbechgpgnpbaa.GsL7Hue.P b) fun (t_7 : Bool) =>
  letK (!t_7) fun (t_8 : Bool) =>
  appK jt_9 t_8)

set_option maxRecDepth 100000 in
set_option maxHeartbeats 2000000 in
theorem C (a : Int) (b : Int)   (w : World)   {r0 : Int} {r1 : Bool} (H : Hid (P a b = some (r0, r1))) :
    Calls Try.prog 24 #[.int .i64 a, .int .i64 b] w (Gives (.tuple #[.int .i64 r0, .bool r1]) w) := by
  have HB := Lib.hid (Below.refl w.heap.size w)
  unfold P at H
  go_enter Try.func24, Try.ntmps24
  replace H := bind_hid H
  obtain ⟨t_3, qt_3, H⟩ := H
  go_wp2_with fail
  go_at_call 64
  refine (Go.Proofs.Ytpbbechgpgnpbaa.GsL7Hue.C (a)  _    qt_3).mono ?_
  rintro e_t_3 wt_3 ⟨rfl, bt_3⟩
  have HBwt_3 := Lib.hid (Below.step HB.out bt_3)
  clear bt_3
  cases t_3 with
  | false =>
    replace H := let_hid H
    obtain ⟨t_4, ht_4, H⟩ := H
    obtain rfl : t_4 = true := ht_4.symm
    replace H := join_hid H
    replace H := ite_t H
    replace H := app_hid H
    replace H := ite_t H
    cases ret_hid H
    go_wp2_with fail
    go_ret2
    exact ⟨rfl, HBwt_3.out⟩
  | true =>
    replace H := let_hid H
    obtain ⟨t_4, ht_4, H⟩ := H
    obtain rfl : t_4 = false := ht_4.symm
    replace H := join_hid H
    replace H := ite_f H
    replace H := bind_hid H
    obtain ⟨t_7, qt_7, H⟩ := H
    go_wp2_with fail
    go_at_call 64
    refine (Go.Proofs.Ytpbbechgpgnpbaa.GsL7Hue.C (b)  _    qt_7).mono ?_
    rintro e_t_7 wt_7 ⟨rfl, bt_7⟩
    have HBwt_7 := Lib.hid (Below.step HBwt_3.out bt_7)
    clear bt_7
    cases t_7 with
    | false =>
      replace H := let_hid H
      obtain ⟨t_8, ht_8, H⟩ := H
      obtain rfl : t_8 = true := ht_8.symm
      replace H := app_hid H
      replace H := ite_t H
      cases ret_hid H
      go_wp2_with fail
      go_ret2
      exact ⟨rfl, HBwt_7.out⟩
    | true =>
      replace H := let_hid H
      obtain ⟨t_8, ht_8, H⟩ := H
      obtain rfl : t_8 = false := ht_8.symm
      replace H := app_hid H
      replace H := ite_f H
      replace H := bind_hid H
      obtain ⟨t_14, qt_14, H⟩ := H
      go_wp2_with fail
      go_at_call 65
      refine (Go.Proofs.Ytpbbechgpgnpbaa.GsL7Far.C (a) (b)  _    qt_14).mono ?_
      rintro e_t_14 wt_14 ⟨rfl, bt_14⟩
      have HBwt_14 := Lib.hid (Below.step HBwt_7.out bt_14)
      clear bt_14
      cases ret_hid H
      go_wp2_with fail
      go_ret2
      exact ⟨rfl, HBwt_14.out⟩
end Go.Proofs.Ytpbbechgpgnpbaa.GsHueDistance

/- Chapter 7: hues and shades: the plain functions of the program and of the reference agree, and the laws answer true. (Q7Hue) No condition but those of each theorem. -/
namespace Go.Proofs.Ytpbbechgpgnpbaa.Q7Hue
set_option linter.unusedVariables false
set_option linter.unusedSimpArgs false
open Go.RowKit
open Go.Proofs.Ytpbbechgpgnpbaa.GoP Go.Proofs.Ytpbbechgpgnpbaa.PlainStamp Go.Proofs.Ytpbbechgpgnpbaa.QBase Go.Proofs.Ytpbbechgpgnpbaa.QLoop

def far (a b : Int) : Int := min (max (a - b) (b - a)) (360 - max (a - b) (b - a))
theorem isHue_eq (h : Int) : GiIsHue.P h = some (inB h 0 359) := by simp only [GiIsHue.P, within_eq, Option.bind_some]
theorem l7Hue_eq (h : Int) : GsL7Hue.P h = some (inB h 0 359) := by simp only [GsL7Hue.P, l1In_eq, Option.bind_some]
theorem most_eq (a b : Int) : GsL1Most.P a b = some (max a b) := by
  simp only [GsL1Most.P, letK, iteK_if]
  by_cases h : b < a
  · rw [if_pos (by simpa using h)]; congr 1; omega
  · rw [if_neg (by simpa using h)]; congr 1; omega
theorem least_eq (a b : Int) : GsL1Least.P a b = some (min a b) := by
  simp only [GsL1Least.P, letK, iteK_if]
  by_cases h : a < b
  · rw [if_pos (by simpa using h)]; congr 1; omega
  · rw [if_neg (by simpa using h)]; congr 1; omega
theorem circle_eq {n : Int} (h1 : -360 ≤ n) (h2 : n ≤ 719) : GiOnCircle.P n = some ((n + 360) % 360) := by
  simp only [GiOnCircle.P, letK]
  rw [wrap_in (by omega) (by omega), Int.tmod_eq_emod_of_nonneg (by omega)]
theorem up_eq {a b : Int} (ha : 0 ≤ a ∧ a ≤ 359) (hb : 0 ≤ b ∧ b ≤ 359) : GiUpwards.P a b = some ((b - a + 360) % 360) := by
  simp only [GiUpwards.P, letK]
  rw [wrap_in (by omega) (by omega), circle_eq (by omega) (by omega)]; rfl
theorem dist_eq {a b : Int} (ha : 0 ≤ a ∧ a ≤ 359) (hb : 0 ≤ b ∧ b ≤ 359) : GiLoHueDistance.P a b = some (far a b) := by
  simp only [GiLoHueDistance.P, up_eq ha hb, up_eq hb ha, Option.bind_some, letK, far]
  congr 1; omega
theorem l7Far_eq {a b : Int} (ha : 0 ≤ a ∧ a ≤ 359) (hb : 0 ≤ b ∧ b ≤ 359) : GsL7Far.P a b = some (far a b) := by
  simp only [GsL7Far.P, most_eq, least_eq, Option.bind_some, letK]
  rw [wrap_in (x := a - b) (by omega) (by omega), wrap_in (x := b - a) (by omega) (by omega), wrap_in (by omega) (by omega)]; rfl
def hueRes (a b : Int) : Int × Bool := if (inB a 0 359 && inB b 0 359) = true then (far a b, true) else (0, false)
theorem hue_impl (a b : Int) : GiHueDistance.P a b = some (hueRes a b) := by
  simp only [GiHueDistance.P, isHue_eq, Option.bind_some, letK, joinK, appK, iteK_if, hueRes]
  cases ha : inB a 0 359 with
  | false => simp
  | true =>
    cases hb : inB b 0 359 with
    | false => simp
    | true => simp [dist_eq (inB_of ha) (inB_of hb)]
theorem hue_spec (a b : Int) : GsHueDistance.P a b = some (hueRes a b) := by
  simp only [GsHueDistance.P, l7Hue_eq, Option.bind_some, letK, joinK, appK, iteK_if, hueRes]
  cases ha : inB a 0 359 with
  | false => simp
  | true =>
    cases hb : inB b 0 359 with
    | false => simp
    | true => simp [l7Far_eq (inB_of ha) (inB_of hb)]
end Go.Proofs.Ytpbbechgpgnpbaa.Q7Hue

/- Words: the tests of a word of the program and of the reference as plain functions. (QWord) No condition but those of each theorem. -/
namespace Go.Proofs.Ytpbbechgpgnpbaa.QWord
set_option linter.unusedVariables false
set_option linter.unusedSimpArgs false
open Go.RowKit
open Go.Proofs.Ytpbbechgpgnpbaa.GoP Go.Proofs.Ytpbbechgpgnpbaa.PlainStamp Go.Proofs.Ytpbbechgpgnpbaa.QBase Go.Proofs.Ytpbbechgpgnpbaa.QLoop

def small (b : UInt8) : Bool := decide (97 ≤ b.toNat ∧ b.toNat ≤ 122)
def wordB (s : ByteArray) : Bool := inB (s.size : Int) 1 10 && s.toList.all small
theorem size_list (s : ByteArray) : s.toList.length = s.size := by rw [Lib.toList_data]; rfl
theorem isLetter_eq (b : UInt8) : GiIsLetter.P (b.toNat : Int) = some (small b) := by
  simp only [GiIsLetter.P, letK, joinK, appK, iteK_if]
  unfold small
  by_cases h1 : 97 ≤ b.toNat
  · by_cases h2 : b.toNat ≤ 122
    · simp [h1, h2, show (97 : Int) ≤ b.toNat by omega, show (b.toNat : Int) ≤ 122 by omega]
    · simp [h1, h2, show (97 : Int) ≤ b.toNat by omega, show ¬ (b.toNat : Int) ≤ 122 by omega]
  · simp [h1, show ¬ (97 : Int) ≤ b.toNat by omega]
theorem isWord_eq (s : ByteArray) : GiIsWord.P s = some (wordB s) := by
  cases hb : inB (s.size : Int) 1 10 with
  | false => simp only [GiIsWord.P, within_eq, hb, Option.bind_some, letK, iteK_if, wordB]; rfl
  | true =>
    have h := inB_of hb
    simp only [GiIsWord.P, within_eq, hb, Option.bind_some, letK, iteK_if]
    rw [if_neg (by simp), guardK_pos (by omega)]
    refine cnt_is _ (fun k _ => (s.toList.take k).all small = true) ?_ ?_ () rfl
    · intro k u nx hk hI hn
      obtain ⟨y, hy, hi⟩ := at_lt (l := s.toList) (k := k) (by rw [size_list]; exact hk)
      simp only [GiIsWord.l0, hi, Option.bind_some, letK, joinK, appK, iteK_if, isLetter_eq]
      cases hs : small y with
      | false =>
        have : wordB s = false := by unfold wordB; rw [not_all hy hs, Bool.and_false]
        simp [this]
      | true => exact hn () (by rw [all_next hy, hI, hs]; rfl)
    · intro u hI
      rw [List.take_of_length_le (by rw [size_list]; exact Nat.le_refl _)] at hI
      simp [GiIsWord.e0, wordB, hb, hI]
theorem l2Word_eq (s : ByteArray) (hz : s.size ≤ 9223372036854775807) : GsL2Word.P s = some (wordB s) := by
  simp only [GsL2Word.P]
  rw [guardK_pos hz]
  refine cnt_is _ (fun k _ => (s.toList.take k).all small = true) ?_ ?_ () rfl
  · intro k u nx hk hI hn
    obtain ⟨y, hy, hi⟩ := at_lt (l := s.toList) (k := k) (by rw [size_list]; exact hk)
    simp only [GsL2Word.l0, hi, Option.bind_some, letK, joinK, appK, iteK_if]
    by_cases h1 : (y.toNat : Int) < 97
    · have : wordB s = false := by unfold wordB; rw [not_all hy (by unfold small; simp; omega), Bool.and_false]
      simp [h1, this]
    · by_cases h2 : (122 : Int) < (y.toNat : Int)
      · have : wordB s = false := by unfold wordB; rw [not_all hy (by unfold small; simp; omega), Bool.and_false]
        simp [h1, h2, this]
      · simp [h1, h2]
        exact hn () (by rw [all_next hy, hI]; unfold small; simp; omega)
  · intro u hI
    rw [List.take_of_length_le (by rw [size_list]; exact Nat.le_refl _)] at hI
    simp [GsL2Word.e0, wordB, l1In_eq, hI]
theorem word_len {s : ByteArray} (h : wordB s = true) : 1 ≤ s.size ∧ s.size ≤ 10 := by
  unfold wordB at h
  simp only [Bool.and_eq_true] at h
  have := inB_of h.1; omega
end Go.Proofs.Ytpbbechgpgnpbaa.QWord

/- Chapter 7: hues and shades: the plain functions of the program and of the reference agree, and the laws answer true. (Q7Shade) No condition but those of each theorem. -/
namespace Go.Proofs.Ytpbbechgpgnpbaa.Q7Shade
set_option linter.unusedVariables false
set_option linter.unusedSimpArgs false
open Go.RowKit
open Go.Proofs.Ytpbbechgpgnpbaa.GoP Go.Proofs.Ytpbbechgpgnpbaa.PlainStamp Go.Proofs.Ytpbbechgpgnpbaa.QBase Go.Proofs.Ytpbbechgpgnpbaa.Q7Hue Go.Proofs.Ytpbbechgpgnpbaa.QWord Go.Proofs.Ytpbbechgpgnpbaa.QOrd Go.Proofs.Ytpbbechgpgnpbaa.QLoop Go.Proofs.Ytpbbechgpgnpbaa.PShade

theorem isLight_eq (h : Int) : GiIsLightness.P h = some (inB h 0 100) := by simp only [GiIsLightness.P, within_eq, Option.bind_some]
def okSh (x : Shade) : Bool := wordB x.name && inB x.hue 0 359 && inB x.width 0 179 && inB x.dark 0 100 && inB x.light 0 100 && decide (x.dark ≤ x.light)
theorem fits_name {x : Shade} (h : x.fits) : x.name.size ≤ 9223372036854775807 := h.1
theorem isShade_eq (x : Shade) : GiIsShade.P x = some (okSh x) := by
  obtain ⟨a, b, c, d, e⟩ := x
  simp only [GiIsShade.P, unShade, isWord_eq, isHue_eq, isLight_eq, within_eq, Option.bind_some, letK, joinK, appK, iteK_if, okSh]
  cases wordB a <;> cases inB b 0 359 <;> cases inB c 0 179 <;> cases inB d 0 100 <;> cases inB e 0 100 <;> simp
theorem l7One_eq (x : Shade) (h : x.fits) : GsL7One.P x = some (okSh x) := by
  have hz := fits_name h
  obtain ⟨a, b, c, d, e⟩ := x
  have hx : (inB e 0 100 && inB d 0 e) = (inB d 0 100 && inB e 0 100 && decide (d ≤ e)) := by unfold inB; rw [Bool.eq_iff_iff]; simp; omega
  simp only [GsL7One.P, unShade, l2Word_eq a hz, l7Hue_eq, l1In_eq, Option.bind_some, letK, joinK, appK, iteK_if, okSh]
  have hy : (wordB a && inB b 0 359 && inB c 0 179 && inB d 0 100 && inB e 0 100 && decide (d ≤ e)) = (wordB a && inB b 0 359 && inB c 0 179 && (inB e 0 100 && inB d 0 e)) := by rw [hx]; simp [Bool.and_assoc]
  rw [hy]
  cases wordB a <;> cases inB b 0 359 <;> cases inB c 0 179 <;> cases inB e 0 100 <;> simp
theorem okSh_of {x : Shade} (h : okSh x = true) : (0 ≤ x.hue ∧ x.hue ≤ 359) ∧ (0 ≤ x.width ∧ x.width ≤ 179) ∧ (0 ≤ x.dark ∧ x.dark ≤ 100) ∧ (0 ≤ x.light ∧ x.light ≤ 100) ∧ x.dark ≤ x.light ∧ wordB x.name = true := by
  unfold okSh at h
  simp only [Bool.and_eq_true, decide_eq_true_eq] at h
  exact ⟨inB_of h.1.1.1.1.2, inB_of h.1.1.1.2, inB_of h.1.1.2, inB_of h.1.2, h.2, h.1.1.1.1.1⟩
end Go.Proofs.Ytpbbechgpgnpbaa.Q7Shade

/- Chapter 7: hues and shades: the plain functions of the program and of the reference agree, and the laws answer true. (Q7List) No condition but those of each theorem. -/
namespace Go.Proofs.Ytpbbechgpgnpbaa.Q7List
set_option linter.unusedVariables false
set_option linter.unusedSimpArgs false
open Go.RowKit
open Go.Proofs.Ytpbbechgpgnpbaa.GoP Go.Proofs.Ytpbbechgpgnpbaa.PlainStamp Go.Proofs.Ytpbbechgpgnpbaa.QBase Go.Proofs.Ytpbbechgpgnpbaa.Q7Shade Go.Proofs.Ytpbbechgpgnpbaa.QOrd Go.Proofs.Ytpbbechgpgnpbaa.QLoop Go.Proofs.Ytpbbechgpgnpbaa.PShade

def nameLt (r s : Shade) : Bool := bl r.name s.name
def okShs (l : List Shade) : Bool := riseL 12 okSh nameLt l
theorem areShades_eq (l : List Shade) (hl : l.length ≤ 9223372036854775807) : GiAreShades.P l = some (okShs l) := by
  simp only [GiAreShades.P, GiAreByKeyShadeStringiIsShadeiNameOfShade.P, letK, iteK_if]
  by_cases h12 : l.length ≤ 12
  · rw [if_neg (by simp; omega), rise_loop (ok := okSh) (lt := nameLt) (no := false)]
    · unfold okShs riseL; cases riseTo okSh nameLt l l.length <;> simp [h12, GiAreByKeyShadeStringiIsShadeiNameOfShade.e0]
    · intro k nx s hs
      have hi : idx l (k : Int) = some s := by rw [idx_nat, hs]
      have hk : k < l.length := (List.getElem?_eq_some_iff.1 hs).1
      simp only [GiAreByKeyShadeStringiIsShadeiNameOfShade.l0, hi, Option.bind_some, unShade, isShade_eq, GiNameOfShade.P, letK, joinK, appK, iteK_if, bl_le]
      refine ⟨fun h => by simp [h], fun h => ⟨fun h0 => by subst h0; simp [h], fun h0 r hr => ?_⟩⟩
      rw [idx_pred h0 (by omega) hr]
      have hk0 : (0 : Int) < (k : Int) := by omega
      have hk1 : ¬ k = 0 := by omega
      exact ⟨fun hlt => by (have hc : bl r.name s.name = true := hlt); simp [h, hk0, hk1, hc], fun hge => by (have hc : bl r.name s.name = false := hge); simp [h, hk0, hk1, hc]⟩
  · rw [if_pos (by simp; omega)]; unfold okShs riseL; simp [h12]
theorem l7Good_eq (l : List Shade) (hf : ∀ s ∈ l, s.fits) (hl : l.length ≤ 9223372036854775807) : GsL7Good.P l = some (okShs l) := by
  simp only [GsL7Good.P]
  rw [rise_loop (ok := okSh) (lt := nameLt) (no := false)]
  · unfold okShs riseL; cases riseTo okSh nameLt l l.length <;> simp [GsL7Good.e0, letK]; omega
  · intro k nx s hs
    have hi : idx l (k : Int) = some s := by rw [idx_nat, hs]
    have hk : k < l.length := (List.getElem?_eq_some_iff.1 hs).1
    have hm := hf s (List.mem_of_getElem? hs)
    have h1 := l7One_eq s hm
    simp only [GsL7Good.l0, hi, Option.bind_some, unShade, h1, letK, joinK, appK, iteK_if, bl_lt]
    refine ⟨fun h => by simp [h], fun h => ⟨fun h0 => by subst h0; simp [h], fun h0 r hr => ?_⟩⟩
    rw [idx_pred h0 (by omega) hr]
    have hk0 : (0 : Int) < (k : Int) := by omega
    have hk1 : ¬ k = 0 := by omega
    exact ⟨fun hlt => by (have hc : bl r.name s.name = true := hlt); simp [h, hk0, hk1, hc], fun hge => by (have hc : bl r.name s.name = false := hge); simp [h, hk0, hk1, hc]⟩
theorem shs_mem {l : List Shade} (h : okShs l = true) {x : Shade} (hx : x ∈ l) : okSh x = true := riseL_mem h hx
end Go.Proofs.Ytpbbechgpgnpbaa.Q7List

/- loop.example/g01062/impl.canLook as a plain function, and the contract of the program's: where the plain one has an answer, the program has it. Conditions: slices read as lists. -/
namespace Go.Proofs.Ytpbbechgpgnpbaa.GiCanLook
set_option linter.unusedVariables false
set_option linter.unusedSimpArgs false
open Go.RowKit
open Go.Proofs.Ytpbbechgpgnpbaa.Rowed Go.Proofs.Ytpbbechgpgnpbaa.Turn Go.Proofs.Ytpbbechgpgnpbaa.Aid Go.Proofs.Ytpbbechgpgnpbaa.GoP Go.Proofs.Ytpbbechgpgnpbaa.GoM

def P (list : (List Go.Proofs.Ytpbbechgpgnpbaa.PShade.Shade)) (hue : Int) (light : Int) : Option (Bool) :=
  Option.bind (Go.Proofs.Ytpbbechgpgnpbaa.GiAreShades.P list) fun (t_2 : Bool) =>
  joinK (fun (t_6 : Bool) =>
  joinK (fun (t_10 : Bool) =>
  some t_10) fun jt_10 => iteK t_6 (Option.bind (Go.Proofs.Ytpbbechgpgnpbaa.GiIsLightness.P light) fun (t_9 : Bool) =>
  appK jt_10 t_9) (appK jt_10 false)) fun jt_6 => iteK t_2 (Option.bind (Go.Proofs.Ytpbbechgpgnpbaa.GiIsHue.P hue) fun (t_5 : Bool) =>
  appK jt_6 t_5) (appK jt_6 false)

set_option maxRecDepth 100000 in
set_option maxHeartbeats 2000000 in
theorem C (list : (List Go.Proofs.Ytpbbechgpgnpbaa.PShade.Shade)) (hue : Int) (light : Int) (A0 : Option Addr) (c0 : Nat)  (w : World) (M0 : Hid (Cells w 5 A0 list.length (Go.Proofs.Ytpbbechgpgnpbaa.PShade.flat list))) (N0 : Hid (list.length ≤ 9223372036854775807))  {r : Bool} (H : Hid (P list hue light = some r)) :
    Calls Try.prog 69 #[.slice A0 list.length c0, .int .i64 hue, .int .i64 light] w (Gives (.bool r) w) := by
  have HB := Lib.hid (Below.refl w.heap.size w)
  unfold P at H
  have N0o := N0.out
  go_enter Try.func69, Try.ntmps69
  replace H := bind_hid H
  obtain ⟨t_2, qt_2, H⟩ := H
  go_wp2_with fail
  go_at_call 22
  refine (Go.Proofs.Ytpbbechgpgnpbaa.GiAreShades.C (list) A0 c0 _   (Lib.hid (Cells.below M0.out HB.out)) N0 qt_2).mono ?_
  rintro e_t_2 wt_2 ⟨rfl, bt_2⟩
  have HBwt_2 := Lib.hid (Below.step HB.out bt_2)
  clear bt_2
  replace H := join_hid H
  cases t_2 with
  | false =>
    replace H := ite_f H
    replace H := app_hid H
    replace H := join_hid H
    replace H := ite_f H
    replace H := app_hid H
    obtain rfl := ret_hid H
    go_wp2_with fail
    go_ret
    exact ⟨rfl, HBwt_2.out⟩
  | true =>
    replace H := ite_t H
    replace H := bind_hid H
    obtain ⟨t_5, qt_5, H⟩ := H
    go_wp2_with fail
    go_at_call 57
    refine (Go.Proofs.Ytpbbechgpgnpbaa.GiIsHue.C (hue)  _    qt_5).mono ?_
    rintro e_t_5 wt_5 ⟨rfl, bt_5⟩
    have HBwt_5 := Lib.hid (Below.step HBwt_2.out bt_5)
    clear bt_5
    replace H := app_hid H
    replace H := join_hid H
    cases t_5 with
    | false =>
      replace H := ite_f H
      replace H := app_hid H
      obtain rfl := ret_hid H
      go_wp2_with fail
      go_ret
      exact ⟨rfl, HBwt_5.out⟩
    | true =>
      replace H := ite_t H
      replace H := bind_hid H
      obtain ⟨t_9, qt_9, H⟩ := H
      go_wp2_with fail
      go_at_call 59
      refine (Go.Proofs.Ytpbbechgpgnpbaa.GiIsLightness.C (light)  _    qt_9).mono ?_
      rintro e_t_9 wt_9 ⟨rfl, bt_9⟩
      have HBwt_9 := Lib.hid (Below.step HBwt_5.out bt_9)
      clear bt_9
      replace H := app_hid H
      obtain rfl := ret_hid H
      go_wp2_with fail
      go_ret
      exact ⟨rfl, HBwt_9.out⟩
end Go.Proofs.Ytpbbechgpgnpbaa.GiCanLook

/- Chapter 7: hues and shades: the plain functions of the program and of the reference agree, and the laws answer true. (Q7Takes) No condition but those of each theorem. -/
namespace Go.Proofs.Ytpbbechgpgnpbaa.Q7Takes
set_option linter.unusedVariables false
set_option linter.unusedSimpArgs false
open Go.RowKit
open Go.Proofs.Ytpbbechgpgnpbaa.GoP Go.Proofs.Ytpbbechgpgnpbaa.PlainStamp Go.Proofs.Ytpbbechgpgnpbaa.QBase Go.Proofs.Ytpbbechgpgnpbaa.Q7List Go.Proofs.Ytpbbechgpgnpbaa.Q7Shade Go.Proofs.Ytpbbechgpgnpbaa.Q7Hue Go.Proofs.Ytpbbechgpgnpbaa.QLoop Go.Proofs.Ytpbbechgpgnpbaa.PShade

def takesB (x : Shade) (hue light : Int) : Bool := decide (far x.hue hue ≤ x.width) && inB light x.dark x.light
theorem takesIn_eq {x : Shade} {hue : Int} (light : Int) (hx : okSh x = true) (hh : 0 ≤ hue ∧ hue ≤ 359) : GiTakesIn.P x hue light = some (takesB x hue light) := by
  have h1 := okSh_of hx
  obtain ⟨a, b, c, d, e⟩ := x
  dsimp only at h1
  simp only [GiTakesIn.P, unShade, dist_eq h1.1 hh, within_eq, Option.bind_some, letK, joinK, appK, iteK_if, takesB]
  by_cases h : far b hue ≤ c <;> simp [h]
theorem l7Takes_eq {x : Shade} {hue : Int} (light : Int) (hx : okSh x = true) (hh : 0 ≤ hue ∧ hue ≤ 359) : GsL7Takes.P x hue light = some (takesB x hue light) := by
  have h1 := okSh_of hx
  obtain ⟨a, b, c, d, e⟩ := x
  dsimp only at h1
  simp only [GsL7Takes.P, unShade, l7Far_eq h1.1 hh, l1In_eq, Option.bind_some, letK, joinK, appK, iteK_if, takesB]
  by_cases h : far b hue ≤ c <;> simp [h]
theorem canLook_eq (l : List Shade) (hue light : Int) (hl : l.length ≤ 9223372036854775807) : GiCanLook.P l hue light = some (okShs l && inB hue 0 359 && inB light 0 100) := by
  simp only [GiCanLook.P, areShades_eq l hl, isHue_eq, isLight_eq, Option.bind_some, joinK, appK, iteK_if]
  cases okShs l <;> cases inB hue 0 359 <;> simp
end Go.Proofs.Ytpbbechgpgnpbaa.Q7Takes

/- Chapter 7: hues and shades: the plain functions of the program and of the reference agree, and the laws answer true. (Q7Free) No condition but those of each theorem. -/
namespace Go.Proofs.Ytpbbechgpgnpbaa.Q7Free
set_option linter.unusedVariables false
set_option linter.unusedSimpArgs false
open Go.RowKit
open Go.Proofs.Ytpbbechgpgnpbaa.GoP Go.Proofs.Ytpbbechgpgnpbaa.PlainStamp Go.Proofs.Ytpbbechgpgnpbaa.QBase Go.Proofs.Ytpbbechgpgnpbaa.QCount Go.Proofs.Ytpbbechgpgnpbaa.Q7Takes Go.Proofs.Ytpbbechgpgnpbaa.Q7List Go.Proofs.Ytpbbechgpgnpbaa.Q7Shade Go.Proofs.Ytpbbechgpgnpbaa.Q7Hue Go.Proofs.Ytpbbechgpgnpbaa.QLoop Go.Proofs.Ytpbbechgpgnpbaa.PShade

theorem isFree_eq {l : List Shade} (hc : okShs l = true) {hue : Int} (light : Int) (hh : 0 ≤ hue ∧ hue ≤ 359) : GiIsFree.P l hue light = some (!(l.any fun x => takesB x hue light)) := by
  simp only [GiIsFree.P, GxSlicesContainsFuncLoopExampleG01062ImplShadeLoopExampleG01062ImplShadeiIsFree1.P, GxSlicesIndexFuncLoopExampleG01062ImplShadeLoopExampleG01062ImplShadeiIsFree1.P]
  rw [find_loop (p := fun x => takesB x hue light) (yes := fun i => some (i : Int))]
  · rw [← any_find]
    unfold firstI
    cases l.findIdx? fun x => takesB x hue light <;> rfl
  · intro k nx x hx
    have hi : idx l (k : Int) = some x := by rw [idx_nat, hx]
    have hok := shs_mem hc (List.mem_of_getElem? hx)
    have ht := takesIn_eq light hok hh
    simp only [GxSlicesIndexFuncLoopExampleG01062ImplShadeLoopExampleG01062ImplShadeiIsFree1.l0, hi, Option.bind_some, unShade, GiIsFree1.P, ht, appK, iteK_if]
theorem l7Count_eq {l : List Shade} (hc : okShs l = true) (h12 : l.length ≤ 12) {hue : Int} (light : Int) (hh : 0 ≤ hue ∧ hue ≤ 359) : GsL7Count.P l hue light = some ((l.filter fun x => takesB x hue light).length : Int) := by
  simp only [GsL7Count.P]
  rw [count_list (p := fun x => takesB x hue light)]
  · rfl
  · intro k nx x s hx hs
    have hi : idx l (k : Int) = some x := by rw [idx_nat, hx]
    have hok := shs_mem hc (List.mem_of_getElem? hx)
    have ht := l7Takes_eq light hok hh
    have hk := (List.getElem?_eq_some_iff.1 hx).1
    simp only [GsL7Count.l0, letK, hi, Option.bind_some, unShade, ht, appK, iteK_if]
    rw [wrap_in (by omega) (by omega)]
    cases takesB x hue light <;> simp
end Go.Proofs.Ytpbbechgpgnpbaa.Q7Free

/- Chapter 7: hues and shades: the plain functions of the program and of the reference agree, and the laws answer true. (Q7FreeCol) No condition but those of each theorem. -/
namespace Go.Proofs.Ytpbbechgpgnpbaa.Q7FreeCol
set_option linter.unusedVariables false
set_option linter.unusedSimpArgs false
open Go.RowKit
open Go.Proofs.Ytpbbechgpgnpbaa.GoP Go.Proofs.Ytpbbechgpgnpbaa.PlainStamp Go.Proofs.Ytpbbechgpgnpbaa.QBase Go.Proofs.Ytpbbechgpgnpbaa.QOrd Go.Proofs.Ytpbbechgpgnpbaa.QCount Go.Proofs.Ytpbbechgpgnpbaa.Q7Free Go.Proofs.Ytpbbechgpgnpbaa.Q7Takes Go.Proofs.Ytpbbechgpgnpbaa.Q7List Go.Proofs.Ytpbbechgpgnpbaa.Q7Shade Go.Proofs.Ytpbbechgpgnpbaa.Q7Hue Go.Proofs.Ytpbbechgpgnpbaa.QLoop Go.Proofs.Ytpbbechgpgnpbaa.PShade

def freeRes (l : List Shade) (light : Int) : Int × Bool := if (okShs l && inB light 0 100) = true then (((List.range 360).filter fun h : Nat => !(l.any fun x => takesB x (h : Int) light)).length, true) else (0, false)
theorem free_impl (l : List Shade) (light : Int) (hl : l.length ≤ 9223372036854775807) : GiFreeColors.P l light = some (freeRes l light) := by
  simp only [GiFreeColors.P, areShades_eq l hl, isLight_eq, Option.bind_some, letK, joinK, appK, iteK_if, freeRes]
  cases hc : okShs l with
  | false => simp
  | true =>
    cases hb : inB light 0 100 with
    | false => simp
    | true =>
      simp only [Bool.not_true, Bool.and_true, Bool.false_eq_true, if_false, if_true, GiCountHuesiFreeColors1.P]
      rw [count_up (p := fun h : Nat => !(l.any fun x => takesB x (h : Int) light))]
      · rfl
      · intro k nx s hk hs
        simp only [GiCountHuesiFreeColors1.l0, letK, GiFreeColors1.P, isFree_eq hc light (hue := (k : Int)) ⟨by omega, by omega⟩, Option.bind_some, appK, iteK_if]
        rw [wrap_in (by omega) (by omega)]
        cases l.any fun x => takesB x (k : Int) light <;> simp
theorem free_spec (l : List Shade) (light : Int) (hf : ∀ s ∈ l, s.fits) (hl : l.length ≤ 9223372036854775807) : GsFreeColors.P l light = some (freeRes l light) := by
  simp only [GsFreeColors.P, l7Good_eq l hf hl, l1In_eq, Option.bind_some, letK, joinK, appK, iteK_if, freeRes]
  cases hc : okShs l with
  | false => simp
  | true =>
    have h12 := riseL_len hc
    cases hb : inB light 0 100 with
    | false => simp
    | true =>
      simp only [Bool.not_true, Bool.and_true, Bool.false_eq_true, if_false, if_true]
      rw [count_up (p := fun h : Nat => !(l.any fun x => takesB x (h : Int) light))]
      · rfl
      · intro k nx s hk hs
        simp only [GsFreeColors.l0, letK, l7Count_eq hc h12 light (hue := (k : Int)) ⟨by omega, by omega⟩, Option.bind_some, appK, iteK_if, filter_zero]
        rw [wrap_in (by omega) (by omega)]
        cases l.any fun x => takesB x (k : Int) light <;> simp
end Go.Proofs.Ytpbbechgpgnpbaa.Q7FreeCol

/- The laws' helpers on Shade and on slices of it as plain functions: copied, equal, their bulk. No condition. -/
namespace Go.Proofs.Ytpbbechgpgnpbaa.QHShadeE
set_option linter.unusedVariables false
set_option linter.unusedSimpArgs false
open Go.RowKit
open Go.Proofs.Ytpbbechgpgnpbaa.GoP Go.Proofs.Ytpbbechgpgnpbaa.QBase Go.Proofs.Ytpbbechgpgnpbaa.QLoop Go.Proofs.Ytpbbechgpgnpbaa.PShade

theorem toOne (s : Shade) : GlToShade.P s = some s := by cases s; rfl
theorem eqOne (s : Shade) : GlEqShade.P s s = some true := by
  obtain ⟨x0, x1, x2, x3, x4⟩ := s
  simp [GlEqShade.P, unShade, letK, joinK, appK, iteK_if]
theorem toS (l : List Shade) (hl : l.length ≤ 1048576) : GlToShadeS.P l = some l := by
  simp only [GlToShadeS.P, letK]
  rw [guardK_pos (by omega)]
  refine cnt_is l (fun k s => s = l.take k ++ List.replicate (l.length - k) (Shade.mk ByteArray.empty 0 0 0 0)) ?_ ?_ _ (by simp)
  · intro k s nx hk hI hn
    obtain ⟨x, hx, hi⟩ := at_lt (l := l) (k := k) hk
    have hlen : s.length = l.length := by rw [hI]; simp; omega
    obtain ⟨z, hz, hj⟩ := at_lt (l := s) (k := k) (by omega)
    simp only [GlToShadeS.l0, hi, hj, toOne, Option.bind_some, unShade, letK, appK]
    refine hn _ ?_
    rw [hI, take_next hx, List.set_append_right _ _ (by simp; omega)]
    have hr : l.length - k = (l.length - (k + 1)) + 1 := by omega
    rw [hr, List.replicate_succ, List.append_assoc]
    simp [show k - min k l.length = 0 by omega]
  · intro s hI
    rw [hI]; simp [GlToShadeS.e0, letK]
theorem eqS (l : List Shade) : GlEqShadeS.P l l = some true := by
  simp only [GlEqShadeS.P, letK, iteK_if]
  rw [if_neg (by simp)]
  refine cnt_is true (fun _ _ => True) ?_ (fun s _ => rfl) () trivial
  intro k s nx hk _ hn
  obtain ⟨x, hx, hi⟩ := at_lt (l := l) (k := k) hk
  simp only [GlEqShadeS.l0, hi, Option.bind_some, unShade, eqOne, letK, appK, iteK_if]
  exact hn () trivial
theorem fits_max {s : Shade} (h : s.fits) : s.name.size ≤ 9223372036854775807 := by
  obtain ⟨x0, x1, x2, x3, x4⟩ := s
  obtain ⟨hx0, hx1, hx2, hx3, hx4⟩ := h
  unfold maxLen at hx0
  exact hx0
theorem szOne (s : Shade) (left : Int) (h : s.fits) (h0 : 0 ≤ left) (h1 : left ≤ 1048576) : ∃ v, GlSzShade.P s left = some v ∧ v ≤ left := by
  have hm := fits_max h
  simp only [GlSzShade.P, unShade, letK, iteK_if]
  rw [wrap_in (x := left - (s.name.size : Int)) (by omega) (by omega)]
  by_cases hd0 : left - (s.name.size : Int) < 0
  · exact ⟨-1, by rw [if_pos (by simpa using hd0)], by omega⟩
  rw [if_neg (by simpa using hd0)]
  exact ⟨_, rfl, by omega⟩
theorem szS (l : List Shade) (hf : ∀ s ∈ l, s.fits) (hl : l.length ≤ 9223372036854775807) : ∃ v, GlSzShadeS.P l 1048576 = some v ∧ (0 ≤ v → l.length ≤ 1048576) := by
  simp only [GlSzShadeS.P, letK, iteK_if]
  rw [wrap_in (by omega) (by omega)]
  by_cases h : (1048576 : Int) - (l.length : Int) < 0
  · exact ⟨-1, by rw [if_pos (by simp; omega)], by omega⟩
  · rw [if_neg (by simp; omega)]
    refine cnt_ex (n := l.length) (Q := fun v => 0 ≤ v → l.length ≤ 1048576) (fun _ (s : Int) => 0 ≤ s ∧ s ≤ 1048576) ?_ ?_ l.length 0 _ (by omega) ⟨by omega, by omega⟩
    · intro k s nx hk hI hn
      obtain ⟨x, hx, hi⟩ := at_lt (l := l) (k := k) hk
      simp only [GlSzShadeS.l0, hi, Option.bind_some, unShade, letK, appK, iteK_if]
      obtain ⟨v, hv, hv1⟩ := szOne x s (hf x (List.mem_of_getElem? hx)) hI.1 hI.2
      have hv' : GlSzShade.P ⟨x.name, x.hue, x.width, x.dark, x.light⟩ s = some v := hv
      rw [hv']
      simp only [Option.bind_some]
      by_cases hb : v < 0
      · rw [if_pos (by simpa using hb)]; exact ⟨-1, by simp, by omega⟩
      · rw [if_neg (by simpa using hb)]
        exact hn _ ⟨by omega, by omega⟩
    · intro s hI; exact ⟨s, rfl, fun _ => by omega⟩
end Go.Proofs.Ytpbbechgpgnpbaa.QHShadeE

/- Chapter 7: hues and shades: the plain functions of the program and of the reference agree, and the laws answer true. (QL7Free) No condition but those of each theorem. -/
namespace Go.Proofs.Ytpbbechgpgnpbaa.QL7Free
set_option linter.unusedVariables false
set_option linter.unusedSimpArgs false
open Go.RowKit
open Go.Proofs.Ytpbbechgpgnpbaa.GoP Go.Proofs.Ytpbbechgpgnpbaa.PlainStamp Go.Proofs.Ytpbbechgpgnpbaa.QBase Go.Proofs.Ytpbbechgpgnpbaa.Q7FreeCol Go.Proofs.Ytpbbechgpgnpbaa.Q7List Go.Proofs.Ytpbbechgpgnpbaa.QLoop Go.Proofs.Ytpbbechgpgnpbaa.PShade Go.Proofs.Ytpbbechgpgnpbaa.QHShadeE

theorem law_free (l : List Shade) (light : Int) (hf : ∀ s ∈ l, s.fits) (hl : l.length ≤ 9223372036854775807) : GlFnExactFreeColors.P l light = some true := by
  obtain ⟨v, hv, hn⟩ := szS l hf hl
  simp only [GlFnExactFreeColors.P, hv, Option.bind_some, letK, iteK_if]
  by_cases hb : v < 0
  · rw [if_pos (by simp; omega)]
  · rw [if_neg (by simp; omega)]
    obtain ⟨⟨a, b⟩, hr⟩ : ∃ x, x = freeRes l light := ⟨_, rfl⟩
    simp [toS l (hn (by omega)), free_spec l light hf hl, free_impl l light hl, ← hr, bind2, joinK, appK, iteK_if, eqS]
end Go.Proofs.Ytpbbechgpgnpbaa.QL7Free

