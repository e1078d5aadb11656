/- The texts on which the proof of FnExactMarkNames stands, one behind the other (2 of 3). No condition of their own. -/
import Derived.Test.YtbnpdaipgamgkaaChecked
import Derived.Test.YtbnpdaipgamgkaaFnExactMarkNamesP1
import Derived.WalkKit
import Derived.WalkSpells
import Derived.WalkLawsBesides
import Derived.BigQuiet
import Derived.OwnWalk
import Derived.Deep.LoopGhost
import Derived.Deep.QuietTactic
import Derived.IntWalk
import Derived.Lib.QuietBelow
import Derived.Lib.Hide
import Derived.Lib.LaidU8
import Derived.Outline
import Derived.Lib.RowBridge
import Derived.Sort.EncStr
import Derived.Shelf.Small.Bits
import Derived.Shelf.Strconv.Itoa0
import Derived.Shelf.Sort.Plain
import Derived.Shelf.Slices.CompactS
import Derived.Shelf.Slices.Cells
import Derived.Shelf.Slices.In.SortNone
import Derived.Test.YtbnpdaipgamgkaaProg
import Derived.Lib.ItoaLen
import Derived.Lib.ItoaMem
import Derived.Laws.IdiomStrings
import Derived.Deep.RegionHeld3
/- loop.example/g01062/impl.isWord as a plain function, and the contract of the program's: where the plain one has an answer, the program has it. Conditions: slices read as lists. -/
namespace Go.Proofs.Ytbnpdaipgamgkaa.GiIsWord
set_option linter.unusedVariables false
set_option linter.unusedSimpArgs false
open Go.RowKit
open Go.Proofs.Ytbnpdaipgamgkaa.Rowed Go.Proofs.Ytbnpdaipgamgkaa.Turn Go.Proofs.Ytbnpdaipgamgkaa.Aid Go.Proofs.Ytbnpdaipgamgkaa.GoP Go.Proofs.Ytbnpdaipgamgkaa.GoM

def l0 (s_0 : ByteArray) (k0 : Nat) (s : Unit) (nx0 bk0 : Unit → Option (Bool)) : Option (Bool) :=
  
  Option.bind (idx s_0.toList (k0 : Int)) fun (yt_14 : UInt8) =>
  letK ((yt_14.toNat : Int)) fun (t_14 : Int) =>
  Option.bind (Go.Proofs.Ytbnpdaipgamgkaa.GiIsLetter.P t_14) fun (t_15 : Bool) =>
  letK (!t_15) fun (t_16 : Bool) =>
  iteK t_16
  (some false)
  (appK nx0 ())

def e0  (s : Unit) : Option (Bool) :=
  
  some true

def P (s_0 : ByteArray) : Option (Bool) :=
  Option.bind (Go.Proofs.Ytbnpdaipgamgkaa.GiWithin.P (s_0.size : Int) 1 10) fun (t_3 : Bool) =>
  letK (!t_3) fun (t_4 : Bool) =>
  iteK t_4
  (some false)
  (guardK (s_0.size ≤ 9223372036854775807) <|
  cntK (l0 s_0) (s_0.size) 0 () (e0 ))

set_option maxRecDepth 100000 in
set_option maxHeartbeats 2000000 in
theorem C (s_0 : ByteArray)   (w : World)   {r : Bool} (H : Hid (P s_0 = some r)) :
    Calls Try.prog 42 #[.string s_0] w (Gives (.bool r) w) := by
  have HB := Lib.hid (Below.refl w.heap.size w)
  unfold P at H
  go_enter Try.func42, Try.ntmps42
  replace H := bind_hid H
  obtain ⟨t_3, qt_3, H⟩ := H
  go_wp2_with fail
  go_at_call 29
  refine (Go.Proofs.Ytbnpdaipgamgkaa.GiWithin.C ((s_0.size : Int)) (1) (10)  _    qt_3).mono ?_
  rintro e_t_3 wt_3 ⟨rfl, bt_3⟩
  have HBwt_3 := Lib.hid (Below.step HB.out bt_3)
  clear bt_3
  cases t_3 with
  | false =>
    replace H := let_hid H
    obtain ⟨t_4, ht_4, H⟩ := H
    obtain rfl : t_4 = true := ht_4.symm
    replace H := ite_t H
    obtain rfl := ret_hid H
    go_wp2_with fail
    go_ret
    exact ⟨rfl, HBwt_3.out⟩
  | true =>
    replace H := let_hid H
    obtain ⟨t_4, ht_4, H⟩ := H
    obtain rfl : t_4 = false := ht_4.symm
    replace H := ite_f H
    replace H := guard_hid H
    obtain ⟨hg0, H⟩ := H
    go_wp2_with fail
    go_loopg [10] (s_0.size) (fun m_ v10_ wr => ∃ (k0 : Nat) , k0 + m_ = s_0.size ∧ v10_ = .int .i64 (k0 : Int) ∧ Hid (cntK (l0 s_0) m_ k0 () (e0 ) = some r) ∧ Hid (Below w.heap.size w wr))
    case atStart => exact ⟨0, by omega, rfl, H, HBwt_3⟩
    case round =>
      obtain ⟨k0, hkm0, rfl, H, HBwr0⟩ := hrel
      rename World => wr0
      cases gk with
      | zero =>
        obtain rfl : k0 = s_0.size := by omega
        have hc0 : decide (((s_0.size : Nat) : Int) < ((s_0.size : Nat) : Int)) = false := by simp
        replace H := cnt_zero H
        unfold e0 at H
        obtain rfl := ret_hid H
        go_wp2_with fail
        go_ret
        exact ⟨rfl, HBwr0.out⟩
      | succ m0 =>
        have hlt0 : k0 < s_0.size := by omega
        have hc0 : decide ((k0 : Int) < ((s_0.size : Nat) : Int)) = true := by simp; omega
        replace H := cnt_succ H
        unfold l0 at H
        replace H := idx_hid H
        obtain ⟨nt_14, yt_14, et_14, lt_14, gt_14, H⟩ := H
        obtain rfl : k0 = nt_14 := by omega
        clear et_14
        have rt_14 := byte_rule lt_14 gt_14.out
        have b0t_14 : (0 : Int) ≤ (k0 : Int) := by omega
        have b1t_14 : (k0 : Int) < (s_0.size : Int) := by have := size_list s_0; omega
        have b2t_14 : ((k0 : Int)).toNat = k0 := by omega
        have b3t_14 : k0 < s_0.size := by have := size_list s_0; omega
        replace H := let_hid H
        obtain ⟨t_14, ht_14, H⟩ := H
        replace H := bind_hid H
        obtain ⟨t_15, qt_15, H⟩ := H
        go_wp2_with fail
        go_at_call 49
        refine (Go.Proofs.Ytbnpdaipgamgkaa.GiIsLetter.C (t_14)  _    qt_15).mono ?_
        rintro e_t_15 wt_15 ⟨rfl, bt_15⟩
        have HBwt_15 := Lib.hid (Below.step HBwr0.out bt_15)
        clear bt_15
        cases t_15 with
        | false =>
          replace H := let_hid H
          obtain ⟨t_16, ht_16, H⟩ := H
          obtain rfl : t_16 = true := ht_16.symm
          replace H := ite_t H
          obtain rfl := ret_hid H
          go_wp2_with fail
          go_ret
          exact ⟨rfl, HBwt_15.out⟩
        | true =>
          replace H := let_hid H
          obtain ⟨t_16, ht_16, H⟩ := H
          obtain rfl : t_16 = false := ht_16.symm
          replace H := ite_f H
          replace H := app_hid H
          go_wp2_with fail
          go_roundg m0
          case measure => omega
          case rel => exact ⟨k0 + 1, by omega, by go_num, H, HBwt_15⟩
end Go.Proofs.Ytbnpdaipgamgkaa.GiIsWord

/- loop.example/g01062/impl.isMark as a plain function, and the contract of the program's: where the plain one has an answer, the program has it. Conditions: slices read as lists. -/
namespace Go.Proofs.Ytbnpdaipgamgkaa.GiIsMark
set_option linter.unusedVariables false
set_option linter.unusedSimpArgs false
open Go.RowKit
open Go.Proofs.Ytbnpdaipgamgkaa.Rowed Go.Proofs.Ytbnpdaipgamgkaa.Turn Go.Proofs.Ytbnpdaipgamgkaa.Aid Go.Proofs.Ytbnpdaipgamgkaa.GoP Go.Proofs.Ytbnpdaipgamgkaa.GoM

def P (s_0 : ByteArray) : Option (Bool) :=
  letK (s_0.toList.isEmpty) fun (t_2 : Bool) =>
  joinK (fun (t_6 : Bool) =>
  some t_6) fun jt_6 => iteK t_2 (appK jt_6 true) (Option.bind (Go.Proofs.Ytbnpdaipgamgkaa.GiIsWord.P s_0) fun (t_5 : Bool) =>
  appK jt_6 t_5)

set_option maxRecDepth 100000 in
set_option maxHeartbeats 2000000 in
theorem C (s_0 : ByteArray)   (w : World)   {r : Bool} (H : Hid (P s_0 = some r)) :
    Calls Try.prog 30 #[.string s_0] w (Gives (.bool r) w) := by
  have HB := Lib.hid (Below.refl w.heap.size w)
  unfold P at H
  go_enter Try.func30, Try.ntmps30
  replace H := let_hid H
  obtain ⟨t_2, ht_2, H⟩ := H
  replace H := join_hid H
  cases t_2 with
  | false =>
    replace H := ite_f H
    replace H := bind_hid H
    obtain ⟨t_5, qt_5, H⟩ := H
    go_wp2_with fail
    go_at_call 42
    refine (Go.Proofs.Ytbnpdaipgamgkaa.GiIsWord.C (s_0)  _    qt_5).mono ?_
    rintro e_t_5 wt_5 ⟨rfl, bt_5⟩
    have HBwt_5 := Lib.hid (Below.step HB.out bt_5)
    clear bt_5
    replace H := app_hid H
    obtain rfl := ret_hid H
    go_wp2_with fail
    go_ret
    exact ⟨rfl, HBwt_5.out⟩
  | true =>
    replace H := ite_t H
    replace H := app_hid H
    obtain rfl := ret_hid H
    go_wp2_with fail
    go_ret
    exact ⟨rfl, HB.out⟩
end Go.Proofs.Ytbnpdaipgamgkaa.GiIsMark

/- loop.example/g01062/impl.IsPaper as a plain function, and the contract of the program's: where the plain one has an answer, the program has it. Conditions: slices read as lists. -/
namespace Go.Proofs.Ytbnpdaipgamgkaa.GiIsPaper
set_option linter.unusedVariables false
set_option linter.unusedSimpArgs false
open Go.RowKit
open Go.Proofs.Ytbnpdaipgamgkaa.Rowed Go.Proofs.Ytbnpdaipgamgkaa.Turn Go.Proofs.Ytbnpdaipgamgkaa.Aid Go.Proofs.Ytbnpdaipgamgkaa.GoP Go.Proofs.Ytbnpdaipgamgkaa.GoM

def P (p : Go.Proofs.Ytbnpdaipgamgkaa.PPaper.Paper) : Option (Bool) :=
  unPaper p fun (p_id : Int) (p_thick : Int) (p_tint : Int) (p_mark : ByteArray) (p_laid : Bool) =>
  Option.bind (Go.Proofs.Ytbnpdaipgamgkaa.GiWithin.P p_id 1 99) fun (t_4 : Bool) =>
  joinK (fun (t_9 : Bool) =>
  joinK (fun (t_14 : Bool) =>
  joinK (fun (t_19 : Bool) =>
  some t_19) fun jt_19 => iteK t_14 (Option.bind (Go.Proofs.Ytbnpdaipgamgkaa.GiIsMark.P p_mark) fun (t_18 : Bool) =>
  appK jt_19 t_18) (appK jt_19 false)) fun jt_14 => iteK t_9 (Option.bind (Go.Proofs.Ytbnpdaipgamgkaa.GiWithin.P p_tint 0 9) fun (t_13 : Bool) =>
  appK jt_14 t_13) (appK jt_14 false)) fun jt_9 => iteK t_4 (Option.bind (Go.Proofs.Ytbnpdaipgamgkaa.GiWithin.P p_thick 1 300) fun (t_8 : Bool) =>
  appK jt_9 t_8) (appK jt_9 false)

set_option maxRecDepth 100000 in
set_option maxHeartbeats 2000000 in
theorem C (p : Go.Proofs.Ytbnpdaipgamgkaa.PPaper.Paper)   (w : World)   {r : Bool} (H : Hid (P p = some r)) :
    Calls Try.prog 23 #[p.val] w (Gives (.bool r) w) := by
  have HB := Lib.hid (Below.refl w.heap.size w)
  unfold P at H
  obtain ⟨p_id, p_thick, p_tint, p_mark, p_laid⟩ := p
  replace H := unPaper_hid H
  unfold Go.Proofs.Ytbnpdaipgamgkaa.PPaper.Paper.val
  go_enter Try.func23, Try.ntmps23
  obtain ⟨w_p_0, hw_p_0⟩ : ∃ x, w.alloc (.cells #[.int .i64 p_id, .int .i64 p_thick, .int .i64 p_tint, .string p_mark, .bool p_laid] 38) = x := ⟨_, rfl⟩
  have bw_p_0 : Below w.heap.size w w_p_0 := by rw [← hw_p_0]; exact (Below.refl _ _).alloc (Nat.le_refl _) _
  have HBw_p_0 := Lib.hid (Below.step HB.out bw_p_0)
  clear bw_p_0
  have kp_0_0 : w_p_0.cell? ⟨w.heap.size, 0, none⟩ = some (.int .i64 p_id) := by rw [← hw_p_0]; exact box_new _ _ _ 0 _ rfl
  have kp_0_1 : w_p_0.cell? ⟨w.heap.size, 1, none⟩ = some (.int .i64 p_thick) := by rw [← hw_p_0]; exact box_new _ _ _ 1 _ rfl
  have kp_0_2 : w_p_0.cell? ⟨w.heap.size, 2, none⟩ = some (.int .i64 p_tint) := by rw [← hw_p_0]; exact box_new _ _ _ 2 _ rfl
  have kp_0_3 : w_p_0.cell? ⟨w.heap.size, 3, none⟩ = some (.string p_mark) := by rw [← hw_p_0]; exact box_new _ _ _ 3 _ rfl
  have kp_0_4 : w_p_0.cell? ⟨w.heap.size, 4, none⟩ = some (.bool p_laid) := by rw [← hw_p_0]; exact box_new _ _ _ 4 _ rfl
  replace H := bind_hid H
  obtain ⟨t_4, qt_4, H⟩ := H
  go_wp2_with fail
  go_at_call 29
  refine (Go.Proofs.Ytbnpdaipgamgkaa.GiWithin.C (p_id) (1) (99)  _    qt_4).mono ?_
  rintro e_t_4 wt_4 ⟨rfl, bt_4⟩
  have HBwt_4 := Lib.hid (Below.step HBw_p_0.out bt_4)
  replace kp_0_0 := cell_below bt_4 kp_0_0
  replace kp_0_1 := cell_below bt_4 kp_0_1
  replace kp_0_2 := cell_below bt_4 kp_0_2
  replace kp_0_3 := cell_below bt_4 kp_0_3
  replace kp_0_4 := cell_below bt_4 kp_0_4
  clear bt_4
  replace H := join_hid H
  cases t_4 with
  | false =>
    replace H := ite_f H
    replace H := app_hid H
    replace H := join_hid H
    replace H := ite_f H
    replace H := app_hid H
    replace H := join_hid H
    replace H := ite_f H
    replace H := app_hid H
    obtain rfl := ret_hid H
    go_wp2_with fail
    go_ret
    exact ⟨rfl, HBwt_4.out⟩
  | true =>
    replace H := ite_t H
    replace H := bind_hid H
    obtain ⟨t_8, qt_8, H⟩ := H
    go_wp2_with fail
    go_at_call 29
    refine (Go.Proofs.Ytbnpdaipgamgkaa.GiWithin.C (p_thick) (1) (300)  _    qt_8).mono ?_
    rintro e_t_8 wt_8 ⟨rfl, bt_8⟩
    have HBwt_8 := Lib.hid (Below.step HBwt_4.out bt_8)
    replace kp_0_0 := cell_below bt_8 kp_0_0
    replace kp_0_1 := cell_below bt_8 kp_0_1
    replace kp_0_2 := cell_below bt_8 kp_0_2
    replace kp_0_3 := cell_below bt_8 kp_0_3
    replace kp_0_4 := cell_below bt_8 kp_0_4
    clear bt_8
    replace H := app_hid H
    replace H := join_hid H
    cases t_8 with
    | false =>
      replace H := ite_f H
      replace H := app_hid H
      replace H := join_hid H
      replace H := ite_f H
      replace H := app_hid H
      obtain rfl := ret_hid H
      go_wp2_with fail
      go_ret
      exact ⟨rfl, HBwt_8.out⟩
    | true =>
      replace H := ite_t H
      replace H := bind_hid H
      obtain ⟨t_13, qt_13, H⟩ := H
      go_wp2_with fail
      go_at_call 29
      refine (Go.Proofs.Ytbnpdaipgamgkaa.GiWithin.C (p_tint) (0) (9)  _    qt_13).mono ?_
      rintro e_t_13 wt_13 ⟨rfl, bt_13⟩
      have HBwt_13 := Lib.hid (Below.step HBwt_8.out bt_13)
      replace kp_0_0 := cell_below bt_13 kp_0_0
      replace kp_0_1 := cell_below bt_13 kp_0_1
      replace kp_0_2 := cell_below bt_13 kp_0_2
      replace kp_0_3 := cell_below bt_13 kp_0_3
      replace kp_0_4 := cell_below bt_13 kp_0_4
      clear bt_13
      replace H := app_hid H
      replace H := join_hid H
      cases t_13 with
      | false =>
        replace H := ite_f H
        replace H := app_hid H
        obtain rfl := ret_hid H
        go_wp2_with fail
        go_ret
        exact ⟨rfl, HBwt_13.out⟩
      | true =>
        replace H := ite_t H
        replace H := bind_hid H
        obtain ⟨t_18, qt_18, H⟩ := H
        go_wp2_with fail
        go_at_call 30
        refine (Go.Proofs.Ytbnpdaipgamgkaa.GiIsMark.C (p_mark)  _    qt_18).mono ?_
        rintro e_t_18 wt_18 ⟨rfl, bt_18⟩
        have HBwt_18 := Lib.hid (Below.step HBwt_13.out bt_18)
        replace kp_0_0 := cell_below bt_18 kp_0_0
        replace kp_0_1 := cell_below bt_18 kp_0_1
        replace kp_0_2 := cell_below bt_18 kp_0_2
        replace kp_0_3 := cell_below bt_18 kp_0_3
        replace kp_0_4 := cell_below bt_18 kp_0_4
        clear bt_18
        replace H := app_hid H
        obtain rfl := ret_hid H
        go_wp2_with fail
        go_ret
        exact ⟨rfl, HBwt_18.out⟩
end Go.Proofs.Ytbnpdaipgamgkaa.GiIsPaper

/- loop.example/g01062/impl.idOfPaper as a plain function, and the contract of the program's: where the plain one has an answer, the program has it. Conditions: slices read as lists. -/
namespace Go.Proofs.Ytbnpdaipgamgkaa.GiIdOfPaper
set_option linter.unusedVariables false
set_option linter.unusedSimpArgs false
open Go.RowKit
open Go.Proofs.Ytbnpdaipgamgkaa.Rowed Go.Proofs.Ytbnpdaipgamgkaa.Turn Go.Proofs.Ytbnpdaipgamgkaa.Aid Go.Proofs.Ytbnpdaipgamgkaa.GoP Go.Proofs.Ytbnpdaipgamgkaa.GoM

def P (p : Go.Proofs.Ytbnpdaipgamgkaa.PPaper.Paper) : Option (Int) :=
  unPaper p fun (p_id : Int) (p_thick : Int) (p_tint : Int) (p_mark : ByteArray) (p_laid : Bool) =>
  some p_id

set_option maxRecDepth 100000 in
set_option maxHeartbeats 2000000 in
theorem C (p : Go.Proofs.Ytbnpdaipgamgkaa.PPaper.Paper)   (w : World)   {r : Int} (H : Hid (P p = some r)) :
    Calls Try.prog 24 #[p.val] w (Gives (.int .i64 r) w) := by
  have HB := Lib.hid (Below.refl w.heap.size w)
  unfold P at H
  obtain ⟨p_id, p_thick, p_tint, p_mark, p_laid⟩ := p
  replace H := unPaper_hid H
  unfold Go.Proofs.Ytbnpdaipgamgkaa.PPaper.Paper.val
  go_enter Try.func24, Try.ntmps24
  obtain ⟨w_p_0, hw_p_0⟩ : ∃ x, w.alloc (.cells #[.int .i64 p_id, .int .i64 p_thick, .int .i64 p_tint, .string p_mark, .bool p_laid] 38) = x := ⟨_, rfl⟩
  have bw_p_0 : Below w.heap.size w w_p_0 := by rw [← hw_p_0]; exact (Below.refl _ _).alloc (Nat.le_refl _) _
  have HBw_p_0 := Lib.hid (Below.step HB.out bw_p_0)
  clear bw_p_0
  have kp_0_0 : w_p_0.cell? ⟨w.heap.size, 0, none⟩ = some (.int .i64 p_id) := by rw [← hw_p_0]; exact box_new _ _ _ 0 _ rfl
  have kp_0_1 : w_p_0.cell? ⟨w.heap.size, 1, none⟩ = some (.int .i64 p_thick) := by rw [← hw_p_0]; exact box_new _ _ _ 1 _ rfl
  have kp_0_2 : w_p_0.cell? ⟨w.heap.size, 2, none⟩ = some (.int .i64 p_tint) := by rw [← hw_p_0]; exact box_new _ _ _ 2 _ rfl
  have kp_0_3 : w_p_0.cell? ⟨w.heap.size, 3, none⟩ = some (.string p_mark) := by rw [← hw_p_0]; exact box_new _ _ _ 3 _ rfl
  have kp_0_4 : w_p_0.cell? ⟨w.heap.size, 4, none⟩ = some (.bool p_laid) := by rw [← hw_p_0]; exact box_new _ _ _ 4 _ rfl
  obtain rfl := ret_hid H
  go_wp2_with fail
  go_ret
  exact ⟨rfl, HBw_p_0.out⟩
end Go.Proofs.Ytbnpdaipgamgkaa.GiIdOfPaper

/- loop.example/g01062/impl.areByKey[loop.example/g01062/impl.Paper,int] as a plain function, and the contract of the program's: where the plain one has an answer, the program has it. Conditions: slices read as lists. -/
namespace Go.Proofs.Ytbnpdaipgamgkaa.GiAreByKeyPaperIntiIsPaperiIdOfPaper
set_option linter.unusedVariables false
set_option linter.unusedSimpArgs false
open Go.RowKit
open Go.Proofs.Ytbnpdaipgamgkaa.Rowed Go.Proofs.Ytbnpdaipgamgkaa.Turn Go.Proofs.Ytbnpdaipgamgkaa.Aid Go.Proofs.Ytbnpdaipgamgkaa.GoP Go.Proofs.Ytbnpdaipgamgkaa.GoM

def l0 (list : (List Go.Proofs.Ytbnpdaipgamgkaa.PPaper.Paper)) (k0 : Nat) (s : Unit) (nx0 bk0 : Unit → Option (Bool)) : Option (Bool) :=
  
  Option.bind (idx list (k0 : Int)) fun (yt_11 : Go.Proofs.Ytbnpdaipgamgkaa.PPaper.Paper) =>
  unPaper yt_11 fun (t_11_id : Int) (t_11_thick : Int) (t_11_tint : Int) (t_11_mark : ByteArray) (t_11_laid : Bool) =>
  Option.bind (Go.Proofs.Ytbnpdaipgamgkaa.GiIsPaper.P (Go.Proofs.Ytbnpdaipgamgkaa.PPaper.Paper.mk t_11_id t_11_thick t_11_tint t_11_mark t_11_laid)) fun (t_18 : Bool) =>
  letK (!t_18) fun (t_19 : Bool) =>
  joinK (fun (t_36 : Bool) =>
  iteK t_36
  (some false)
  (appK nx0 ())) fun jt_36 => iteK t_19 (appK jt_36 true) (letK (decide (0 < (k0 : Int))) fun (t_22 : Bool) =>
  joinK (fun (t_35 : Bool) =>
  appK jt_36 t_35) fun jt_35 => iteK t_22 (Option.bind (Go.Proofs.Ytbnpdaipgamgkaa.GiIdOfPaper.P (Go.Proofs.Ytbnpdaipgamgkaa.PPaper.Paper.mk t_11_id t_11_thick t_11_tint t_11_mark t_11_laid)) fun (t_26 : Int) =>
  letK (IntKind.i64.wrap ((k0 : Int) - 1)) fun (t_30 : Int) =>
  Option.bind (idx list t_30) fun (yt_31 : Go.Proofs.Ytbnpdaipgamgkaa.PPaper.Paper) =>
  unPaper yt_31 fun (t_31_id : Int) (t_31_thick : Int) (t_31_tint : Int) (t_31_mark : ByteArray) (t_31_laid : Bool) =>
  Option.bind (Go.Proofs.Ytbnpdaipgamgkaa.GiIdOfPaper.P (Go.Proofs.Ytbnpdaipgamgkaa.PPaper.Paper.mk t_31_id t_31_thick t_31_tint t_31_mark t_31_laid)) fun (t_33 : Int) =>
  letK (decide (t_26 ≤ t_33)) fun (t_34 : Bool) =>
  appK jt_35 t_34) (appK jt_35 false))

def e0  (s : Unit) : Option (Bool) :=
  
  some true

def P (list : (List Go.Proofs.Ytbnpdaipgamgkaa.PPaper.Paper)) (most : Int) : Option (Bool) :=
  letK (decide (most < (list.length : Int))) fun (t_4 : Bool) =>
  iteK t_4
  (some false)
  (cntK (l0 list) (list.length) 0 () (e0 ))

set_option maxRecDepth 100000 in
set_option maxHeartbeats 2000000 in
theorem C (list : (List Go.Proofs.Ytbnpdaipgamgkaa.PPaper.Paper)) (most : Int) (A0 : Option Addr) (c0 : Nat)  (w : World) (M0 : Hid (Cells w 5 A0 list.length (Go.Proofs.Ytbnpdaipgamgkaa.PPaper.flat list))) (N0 : Hid (list.length ≤ 9223372036854775807))  {r : Bool} (H : Hid (P list most = some r)) :
    Calls Try.prog 22 #[.slice A0 list.length c0, .int .i64 most, .func (.func 23) #[] #[], .func (.func 24) #[] #[]] w (Gives (.bool r) w) := by
  have HB := Lib.hid (Below.refl w.heap.size w)
  unfold P at H
  have N0o := N0.out
  go_enter Try.func22, Try.ntmps22
  replace H := let_hid H
  obtain ⟨t_4, ht_4, H⟩ := H
  cases t_4 with
  | false =>
    replace H := ite_f H
    go_wp2_with fail
    go_loopg [17] (list.length) (fun m_ v17_ wr => ∃ (k0 : Nat) , k0 + m_ = list.length ∧ v17_ = .int .i64 (k0 : Int) ∧ Hid (cntK (l0 list) m_ k0 () (e0 ) = some r) ∧ Hid (Below w.heap.size w wr))
    case atStart => exact ⟨0, by omega, rfl, H, HB⟩
    case round =>
      obtain ⟨k0, hkm0, rfl, H, HBwr0⟩ := hrel
      rename World => wr0
      cases gk with
      | zero =>
        obtain rfl : k0 = list.length := by omega
        have hc0 : decide (((list.length : Nat) : Int) < ((list.length : Nat) : Int)) = false := by simp
        replace H := cnt_zero H
        unfold e0 at H
        obtain rfl := ret_hid H
        go_wp2_with fail
        go_ret
        exact ⟨rfl, HBwr0.out⟩
      | succ m0 =>
        have hlt0 : k0 < list.length := by omega
        have hc0 : decide ((k0 : Int) < ((list.length : Nat) : Int)) = true := by simp; omega
        replace H := cnt_succ H
        unfold l0 at H
        replace H := idx_hid H
        obtain ⟨nt_11, yt_11, et_11, lt_11, gt_11, H⟩ := H
        obtain rfl : k0 = nt_11 := by omega
        clear et_11
        obtain ⟨t_11_id, t_11_thick, t_11_tint, t_11_mark, t_11_laid⟩ := yt_11
        replace H := unPaper_hid H
        obtain ⟨ab_t_11, ao_t_11, zt_11, At_11, z_t_11, ct_11_0, ct_11_1, ct_11_2, ct_11_3, ct_11_4⟩ := Go.Proofs.Ytbnpdaipgamgkaa.OPaper.at_ M0.out lt_11
        obtain rfl := Option.some.inj (gt_11.out.symm.trans z_t_11)
        subst At_11
        have ltt_11 := cell_lt ct_11_0
        replace ct_11_0 := cell_below HBwr0.out ct_11_0
        replace ct_11_1 := cell_below HBwr0.out ct_11_1
        replace ct_11_2 := cell_below HBwr0.out ct_11_2
        replace ct_11_3 := cell_below HBwr0.out ct_11_3
        replace ct_11_4 := cell_below HBwr0.out ct_11_4
        clear z_t_11
        have b0t_11 : (0 : Int) ≤ (k0 : Int) := by omega
        have b1t_11 : (k0 : Int) < ((list.length : Nat) : Int) := by omega
        have b2t_11 : ((k0 : Int)).toNat = k0 := by omega
        obtain ⟨w_e_13, hw_e_13⟩ : ∃ x, wr0.alloc (.cells #[.int .i64 t_11_id, .int .i64 t_11_thick, .int .i64 t_11_tint, .string t_11_mark, .bool t_11_laid] 38) = x := ⟨_, rfl⟩
        have bw_e_13 : Below wr0.heap.size wr0 w_e_13 := by rw [← hw_e_13]; exact (Below.refl _ _).alloc (Nat.le_refl _) _
        have HBw_e_13 := Lib.hid (Below.step HBwr0.out bw_e_13)
        have ct_11_0__150 := cell_below bw_e_13 ct_11_0
        have ct_11_1__151 := cell_below bw_e_13 ct_11_1
        have ct_11_2__152 := cell_below bw_e_13 ct_11_2
        have ct_11_3__153 := cell_below bw_e_13 ct_11_3
        have ct_11_4__154 := cell_below bw_e_13 ct_11_4
        clear bw_e_13
        have ke_13_0 : w_e_13.cell? ⟨wr0.heap.size, 0, none⟩ = some (.int .i64 t_11_id) := by rw [← hw_e_13]; exact box_new _ _ _ 0 _ rfl
        have ke_13_1 : w_e_13.cell? ⟨wr0.heap.size, 1, none⟩ = some (.int .i64 t_11_thick) := by rw [← hw_e_13]; exact box_new _ _ _ 1 _ rfl
        have ke_13_2 : w_e_13.cell? ⟨wr0.heap.size, 2, none⟩ = some (.int .i64 t_11_tint) := by rw [← hw_e_13]; exact box_new _ _ _ 2 _ rfl
        have ke_13_3 : w_e_13.cell? ⟨wr0.heap.size, 3, none⟩ = some (.string t_11_mark) := by rw [← hw_e_13]; exact box_new _ _ _ 3 _ rfl
        have ke_13_4 : w_e_13.cell? ⟨wr0.heap.size, 4, none⟩ = some (.bool t_11_laid) := by rw [← hw_e_13]; exact box_new _ _ _ 4 _ rfl
        go_wp2_with fail
        clear ct_11_0 ct_11_1 ct_11_2 ct_11_3 ct_11_4
        have Hct_11_0__150 := Lib.hid ct_11_0__150
        replace ct_11_0__150 := cell_regrown ct_11_0__150
        have Hct_11_1__151 := Lib.hid ct_11_1__151
        replace ct_11_1__151 := cell_regrown ct_11_1__151
        have Hct_11_2__152 := Lib.hid ct_11_2__152
        replace ct_11_2__152 := cell_regrown ct_11_2__152
        have Hct_11_3__153 := Lib.hid ct_11_3__153
        replace ct_11_3__153 := cell_regrown ct_11_3__153
        have Hct_11_4__154 := Lib.hid ct_11_4__154
        replace ct_11_4__154 := cell_regrown ct_11_4__154
        have Hke_13_0 := Lib.hid ke_13_0
        replace ke_13_0 := cell_regrown ke_13_0
        have Hke_13_1 := Lib.hid ke_13_1
        replace ke_13_1 := cell_regrown ke_13_1
        have Hke_13_2 := Lib.hid ke_13_2
        replace ke_13_2 := cell_regrown ke_13_2
        have Hke_13_3 := Lib.hid ke_13_3
        replace ke_13_3 := cell_regrown ke_13_3
        have Hke_13_4 := Lib.hid ke_13_4
        replace ke_13_4 := cell_regrown ke_13_4
        replace H := bind_hid H
        obtain ⟨t_18, qt_18, H⟩ := H
        have nt_18 : ∀ d os, Calls Try.prog 23 #[.agg #[.int .i64 t_11_id, .int .i64 t_11_thick, .int .i64 t_11_tint, .string t_11_mark, .bool t_11_laid]] (Go.Sort.grow (redrawn w_e_13 d) os) fun e w'' => e = .returned (.bool t_18) ∧ ∃ p : Regrown, w'' = Go.Sort.grow (redrawn w_e_13 p.d) p.os := fun d os => Calls.regrown_of (Go.Proofs.Ytbnpdaipgamgkaa.GiIsPaper.C ((Go.Proofs.Ytbnpdaipgamgkaa.PPaper.Paper.mk t_11_id t_11_thick t_11_tint t_11_mark t_11_laid))  _    qt_18)
        cases t_18 with
        | false =>
          replace H := let_hid H
          obtain ⟨t_19, ht_19, H⟩ := H
          obtain rfl : t_19 = true := ht_19.symm
          replace H := join_hid H
          replace H := ite_t H
          replace H := app_hid H
          refine wp_region_quiet_below (by kernel_rfl) (by kernel_rfl) ?_
          repeat (go_big_quiet_step (first | (go_at_call 23; exact nt_18 _ _)))
          refine wpQuiet_nil ?_
          intro Y6 hY6
          replace hY6 := below_class hY6
          clear nt_18
          replace ct_11_0__150 := Hct_11_0__150.out
          clear Hct_11_0__150
          replace ct_11_1__151 := Hct_11_1__151.out
          clear Hct_11_1__151
          replace ct_11_2__152 := Hct_11_2__152.out
          clear Hct_11_2__152
          replace ct_11_3__153 := Hct_11_3__153.out
          clear Hct_11_3__153
          replace ct_11_4__154 := Hct_11_4__154.out
          clear Hct_11_4__154
          replace ke_13_0 := Hke_13_0.out
          clear Hke_13_0
          replace ke_13_1 := Hke_13_1.out
          clear Hke_13_1
          replace ke_13_2 := Hke_13_2.out
          clear Hke_13_2
          replace ke_13_3 := Hke_13_3.out
          clear Hke_13_3
          replace ke_13_4 := Hke_13_4.out
          clear Hke_13_4
          have HBY6 := Lib.hid (Below.step HBw_e_13.out hY6)
          replace ct_11_0__150 := cell_below hY6 ct_11_0__150
          replace ct_11_1__151 := cell_below hY6 ct_11_1__151
          replace ct_11_2__152 := cell_below hY6 ct_11_2__152
          replace ct_11_3__153 := cell_below hY6 ct_11_3__153
          replace ct_11_4__154 := cell_below hY6 ct_11_4__154
          replace ke_13_0 := cell_below hY6 ke_13_0
          replace ke_13_1 := cell_below hY6 ke_13_1
          replace ke_13_2 := cell_below hY6 ke_13_2
          replace ke_13_3 := cell_below hY6 ke_13_3
          replace ke_13_4 := cell_below hY6 ke_13_4
          clear hY6
          replace H := ite_t H
          obtain rfl := ret_hid H
          go_wp2_with fail
          go_ret
          exact ⟨rfl, HBY6.out⟩
        | true =>
          replace H := let_hid H
          obtain ⟨t_19, ht_19, H⟩ := H
          obtain rfl : t_19 = false := ht_19.symm
          replace H := join_hid H
          replace H := ite_f H
          replace H := let_hid H
          obtain ⟨t_22, ht_22, H⟩ := H
          replace H := join_hid H
          cases t_22 with
          | false =>
            have nht_22 : ¬ (0 < k0) := by have := of_decide_eq_false ht_22; omega
            replace H := ite_f H
            replace H := app_hid H
            replace H := app_hid H
            refine wp_region_quiet_below (by kernel_rfl) (by kernel_rfl) ?_
            repeat (go_big_quiet_step (first | (go_at_call 23; exact nt_18 _ _)))
            refine wpQuiet_nil ?_
            intro Y6 hY6
            replace hY6 := below_class hY6
            clear nt_18
            replace ct_11_0__150 := Hct_11_0__150.out
            clear Hct_11_0__150
            replace ct_11_1__151 := Hct_11_1__151.out
            clear Hct_11_1__151
            replace ct_11_2__152 := Hct_11_2__152.out
            clear Hct_11_2__152
            replace ct_11_3__153 := Hct_11_3__153.out
            clear Hct_11_3__153
            replace ct_11_4__154 := Hct_11_4__154.out
            clear Hct_11_4__154
            replace ke_13_0 := Hke_13_0.out
            clear Hke_13_0
            replace ke_13_1 := Hke_13_1.out
            clear Hke_13_1
            replace ke_13_2 := Hke_13_2.out
            clear Hke_13_2
            replace ke_13_3 := Hke_13_3.out
            clear Hke_13_3
            replace ke_13_4 := Hke_13_4.out
            clear Hke_13_4
            have HBY6 := Lib.hid (Below.step HBw_e_13.out hY6)
            replace ct_11_0__150 := cell_below hY6 ct_11_0__150
            replace ct_11_1__151 := cell_below hY6 ct_11_1__151
            replace ct_11_2__152 := cell_below hY6 ct_11_2__152
            replace ct_11_3__153 := cell_below hY6 ct_11_3__153
            replace ct_11_4__154 := cell_below hY6 ct_11_4__154
            replace ke_13_0 := cell_below hY6 ke_13_0
            replace ke_13_1 := cell_below hY6 ke_13_1
            replace ke_13_2 := cell_below hY6 ke_13_2
            replace ke_13_3 := cell_below hY6 ke_13_3
            replace ke_13_4 := cell_below hY6 ke_13_4
            clear hY6
            replace H := ite_f H
            replace H := app_hid H
            go_wp2_with fail
            go_roundg m0
            case measure => omega
            case rel => exact ⟨k0 + 1, by omega, by go_num, H, HBY6⟩
          | true =>
            have nht_22 : 0 < k0 := by have := of_decide_eq_true ht_22; omega
            replace H := ite_t H
            replace H := bind_hid H
            obtain ⟨t_26, qt_26, H⟩ := H
            have nt_26 : ∀ d os, Calls Try.prog 24 #[.agg #[.int .i64 t_11_id, .int .i64 t_11_thick, .int .i64 t_11_tint, .string t_11_mark, .bool t_11_laid]] (Go.Sort.grow (redrawn w_e_13 d) os) fun e w'' => e = .returned (.int .i64 t_26) ∧ ∃ p : Regrown, w'' = Go.Sort.grow (redrawn w_e_13 p.d) p.os := fun d os => Calls.regrown_of (Go.Proofs.Ytbnpdaipgamgkaa.GiIdOfPaper.C ((Go.Proofs.Ytbnpdaipgamgkaa.PPaper.Paper.mk t_11_id t_11_thick t_11_tint t_11_mark t_11_laid))  _    qt_26)
            replace H := let_hid H
            obtain ⟨t_30, ht_30, H⟩ := H
            replace H := idx_hid H
            obtain ⟨nt_31, yt_31, et_31, lt_31, gt_31, H⟩ := H
            subst et_31
            obtain ⟨t_31_id, t_31_thick, t_31_tint, t_31_mark, t_31_laid⟩ := yt_31
            replace H := unPaper_hid H
            obtain ⟨ab_t_31, ao_t_31, zt_31, At_31, z_t_31, ct_31_0, ct_31_1, ct_31_2, ct_31_3, ct_31_4⟩ := Go.Proofs.Ytbnpdaipgamgkaa.OPaper.at_ M0.out lt_31
            obtain rfl := Option.some.inj (gt_31.out.symm.trans z_t_31)
            simp only [Option.some.injEq, Addr.mk.injEq] at At_31
            obtain ⟨rfl, rfl, _⟩ := At_31
            have ltt_31 := cell_lt ct_31_0
            replace ct_31_0 := cell_below HBw_e_13.out ct_31_0
            replace ct_31_1 := cell_below HBw_e_13.out ct_31_1
            replace ct_31_2 := cell_below HBw_e_13.out ct_31_2
            replace ct_31_3 := cell_below HBw_e_13.out ct_31_3
            replace ct_31_4 := cell_below HBw_e_13.out ct_31_4
            clear z_t_31
            have b0t_31 : (0 : Int) ≤ (nt_31 : Int) := by omega
            have b1t_31 : (nt_31 : Int) < ((list.length : Nat) : Int) := by omega
            have b2t_31 : ((nt_31 : Int)).toNat = nt_31 := by omega
            have Hct_31_0 := Lib.hid ct_31_0
            replace ct_31_0 := cell_regrown ct_31_0
            have Hct_31_1 := Lib.hid ct_31_1
            replace ct_31_1 := cell_regrown ct_31_1
            have Hct_31_2 := Lib.hid ct_31_2
            replace ct_31_2 := cell_regrown ct_31_2
            have Hct_31_3 := Lib.hid ct_31_3
            replace ct_31_3 := cell_regrown ct_31_3
            have Hct_31_4 := Lib.hid ct_31_4
            replace ct_31_4 := cell_regrown ct_31_4
            replace H := bind_hid H
            obtain ⟨t_33, qt_33, H⟩ := H
            have nt_33 : ∀ d os, Calls Try.prog 24 #[.agg #[.int .i64 t_31_id, .int .i64 t_31_thick, .int .i64 t_31_tint, .string t_31_mark, .bool t_31_laid]] (Go.Sort.grow (redrawn w_e_13 d) os) fun e w'' => e = .returned (.int .i64 t_33) ∧ ∃ p : Regrown, w'' = Go.Sort.grow (redrawn w_e_13 p.d) p.os := fun d os => Calls.regrown_of (Go.Proofs.Ytbnpdaipgamgkaa.GiIdOfPaper.C ((Go.Proofs.Ytbnpdaipgamgkaa.PPaper.Paper.mk t_31_id t_31_thick t_31_tint t_31_mark t_31_laid))  _    qt_33)
            replace H := let_hid H
            obtain ⟨t_34, ht_34, H⟩ := H
            replace H := app_hid H
            replace H := app_hid H
            refine wp_region_quiet_below (by kernel_rfl) (by kernel_rfl) ?_
            repeat (go_big_quiet_step (first | (go_at_call 24; with_reducible exact nt_26 _ _) | (go_at_call 24; with_reducible exact nt_33 _ _) | (go_at_call 23; exact nt_18 _ _) | (go_at_call 24; exact nt_26 _ _) | (go_at_call 24; exact nt_33 _ _)))
            refine wpQuiet_nil ?_
            intro Y6 hY6
            replace hY6 := below_class hY6
            clear nt_18 nt_26 nt_33
            replace ct_11_0__150 := Hct_11_0__150.out
            clear Hct_11_0__150
            replace ct_11_1__151 := Hct_11_1__151.out
            clear Hct_11_1__151
            replace ct_11_2__152 := Hct_11_2__152.out
            clear Hct_11_2__152
            replace ct_11_3__153 := Hct_11_3__153.out
            clear Hct_11_3__153
            replace ct_11_4__154 := Hct_11_4__154.out
            clear Hct_11_4__154
            replace ke_13_0 := Hke_13_0.out
            clear Hke_13_0
            replace ke_13_1 := Hke_13_1.out
            clear Hke_13_1
            replace ke_13_2 := Hke_13_2.out
            clear Hke_13_2
            replace ke_13_3 := Hke_13_3.out
            clear Hke_13_3
            replace ke_13_4 := Hke_13_4.out
            clear Hke_13_4
            replace ct_31_0 := Hct_31_0.out
            clear Hct_31_0
            replace ct_31_1 := Hct_31_1.out
            clear Hct_31_1
            replace ct_31_2 := Hct_31_2.out
            clear Hct_31_2
            replace ct_31_3 := Hct_31_3.out
            clear Hct_31_3
            replace ct_31_4 := Hct_31_4.out
            clear Hct_31_4
            have HBY6 := Lib.hid (Below.step HBw_e_13.out hY6)
            replace ct_11_0__150 := cell_below hY6 ct_11_0__150
            replace ct_11_1__151 := cell_below hY6 ct_11_1__151
            replace ct_11_2__152 := cell_below hY6 ct_11_2__152
            replace ct_11_3__153 := cell_below hY6 ct_11_3__153
            replace ct_11_4__154 := cell_below hY6 ct_11_4__154
            replace ke_13_0 := cell_below hY6 ke_13_0
            replace ke_13_1 := cell_below hY6 ke_13_1
            replace ke_13_2 := cell_below hY6 ke_13_2
            replace ke_13_3 := cell_below hY6 ke_13_3
            replace ke_13_4 := cell_below hY6 ke_13_4
            replace ct_31_0 := cell_below hY6 ct_31_0
            replace ct_31_1 := cell_below hY6 ct_31_1
            replace ct_31_2 := cell_below hY6 ct_31_2
            replace ct_31_3 := cell_below hY6 ct_31_3
            replace ct_31_4 := cell_below hY6 ct_31_4
            clear hY6
            cases t_34 with
            | false =>
              replace H := ite_f H
              replace H := app_hid H
              go_wp2_with fail
              go_roundg m0
              case measure => omega
              case rel => exact ⟨k0 + 1, by omega, by go_num, H, HBY6⟩
            | true =>
              replace H := ite_t H
              obtain rfl := ret_hid H
              go_wp2_with fail
              go_ret
              exact ⟨rfl, HBY6.out⟩
  | true =>
    replace H := ite_t H
    obtain rfl := ret_hid H
    go_wp2_with fail
    go_ret
    exact ⟨rfl, HB.out⟩
end Go.Proofs.Ytbnpdaipgamgkaa.GiAreByKeyPaperIntiIsPaperiIdOfPaper

/- loop.example/g01062/impl.ArePapers as a plain function, and the contract of the program's: where the plain one has an answer, the program has it. Conditions: slices read as lists. -/
namespace Go.Proofs.Ytbnpdaipgamgkaa.GiArePapers
set_option linter.unusedVariables false
set_option linter.unusedSimpArgs false
open Go.RowKit
open Go.Proofs.Ytbnpdaipgamgkaa.Rowed Go.Proofs.Ytbnpdaipgamgkaa.Turn Go.Proofs.Ytbnpdaipgamgkaa.Aid Go.Proofs.Ytbnpdaipgamgkaa.GoP Go.Proofs.Ytbnpdaipgamgkaa.GoM

def P (list : (List Go.Proofs.Ytbnpdaipgamgkaa.PPaper.Paper)) : Option (Bool) :=
  Option.bind (Go.Proofs.Ytbnpdaipgamgkaa.GiAreByKeyPaperIntiIsPaperiIdOfPaper.P list 10) fun (t_2 : Bool) =>
  some t_2

set_option maxRecDepth 100000 in
set_option maxHeartbeats 2000000 in
theorem C (list : (List Go.Proofs.Ytbnpdaipgamgkaa.PPaper.Paper)) (A0 : Option Addr) (c0 : Nat)  (w : World) (M0 : Hid (Cells w 5 A0 list.length (Go.Proofs.Ytbnpdaipgamgkaa.PPaper.flat list))) (N0 : Hid (list.length ≤ 9223372036854775807))  {r : Bool} (H : Hid (P list = some r)) :
    Calls Try.prog 16 #[.slice A0 list.length c0] w (Gives (.bool r) w) := by
  have HB := Lib.hid (Below.refl w.heap.size w)
  unfold P at H
  have N0o := N0.out
  go_enter Try.func16, Try.ntmps16
  replace H := bind_hid H
  obtain ⟨t_2, qt_2, H⟩ := H
  go_wp2_with fail
  go_at_call 22
  refine (Go.Proofs.Ytbnpdaipgamgkaa.GiAreByKeyPaperIntiIsPaperiIdOfPaper.C (list) (10) A0 c0 _   (Lib.hid (Cells.below M0.out HB.out)) N0 qt_2).mono ?_
  rintro e_t_2 wt_2 ⟨rfl, bt_2⟩
  have HBwt_2 := Lib.hid (Below.step HB.out bt_2)
  clear bt_2
  obtain rfl := ret_hid H
  go_wp2_with fail
  go_ret
  exact ⟨rfl, HBwt_2.out⟩
end Go.Proofs.Ytbnpdaipgamgkaa.GiArePapers

/- The contracts of the laws' helpers on slices of ints: toIntS, eqIntS, markIntS, heldIntS. Condition: the slice reads as a list of ints. -/
namespace Go.Proofs.Ytbnpdaipgamgkaa.HelpInt
set_option linter.unusedVariables false
open Go.RowKit
open Go.Proofs.Ytbnpdaipgamgkaa.Rowed

/-- ints as values -/
def iv (l : List Int) : List Value := l.map (Value.int .i64)
theorem iv_len (l : List Int) : (iv l).length = l.length := by simp [iv]
theorem iv_at (l : List Int) (k : Nat) : (iv l)[k]? = (l[k]?).map (Value.int .i64) := by simp [iv]
theorem iv_snoc (l : List Int) (x : Int) : iv (l ++ [x]) = iv l ++ [.int .i64 x] := by simp [iv]
/-- the slice 'A, n' reads as the ints l -/
abbrev Ints (w : World) (A : Option Addr) (n : Nat) (l : List Int) : Prop := Cells w 1 A n (iv l)
theorem add_none (b o n : Nat) : (⟨b, o, none⟩ : Addr).add n = ⟨b, o + n, none⟩ := by
  unfold Addr.add; split
  · rename_i h; subst h; rfl
  · rfl
theorem Ints.at_ {w : World} {A : Option Addr} {n k : Nat} {l : List Int} (h : Ints w A n l) (hk : k < n) : ∃ (b o : Nat) (x : Int), A = some ⟨b, o, none⟩ ∧ l[k]? = some x ∧ w.cell? ⟨b, o + k, none⟩ = some (.int .i64 x) := by
  have hl : k < l.length := by have := h.1; rw [iv_len] at this; omega
  obtain ⟨⟨b, o, sp⟩, e, hc⟩ := h.2 (by rw [iv_len]; omega)
  have h0 := hc 0 _ (by rw [iv_at, List.getElem?_eq_getElem (show 0 < l.length by omega)]; rfl)
  obtain rfl : sp = none := cell_spot (b := b) (o := o) h0
  have hs := List.getElem?_eq_getElem hl
  have := hc k (.int .i64 l[k]) (by rw [iv_at, hs]; rfl)
  rw [add_none] at this
  exact ⟨b, o, l[k], e, hs, this⟩








end Go.Proofs.Ytbnpdaipgamgkaa.HelpInt

/- A row of numbers of one's own that the library's sort or Compact has gone over. No condition. -/
namespace Go.Proofs.Ytbnpdaipgamgkaa.GoS
set_option linter.unusedVariables false
open Go.RowKit
open Go.Proofs.Ytbnpdaipgamgkaa.Turn Go.Proofs.Ytbnpdaipgamgkaa.GoM
theorem own_holds {b T n c g : Nat} {w : World} {l : List Int} (hn : l.length = n) (h : w.ownsRow b T 1 (.slice (some ⟨g, 0, none⟩) n c) n (Go.Proofs.Ytbnpdaipgamgkaa.HelpInt.iv l)) : Sort.Holds (Value.int .i64) w g 0 l.toArray := by
  intro j hj
  have hj' : j < l.length := by simpa using hj
  refine ⟨?_, h.frozenAt _⟩
  obtain ⟨ad, ea, hc⟩ := (own_cells h).2 (by unfold Go.Proofs.Ytbnpdaipgamgkaa.HelpInt.iv; rw [List.length_map]; omega)
  obtain rfl := Option.some.inj ea
  have hu : (Go.Proofs.Ytbnpdaipgamgkaa.HelpInt.iv l)[j]? = some (.int .i64 l[j]) := by unfold Go.Proofs.Ytbnpdaipgamgkaa.HelpInt.iv; simp [hj']
  have := hc j _ hu
  rw [add_flat] at this
  simp only [Nat.zero_add] at this ⊢
  rw [this]
  simp [hj']
theorem own_put {b T n c g : Nat} {w : World} {l m : List Int} (hn : l.length = n) (hm : m.length = n) (h : w.ownsRow b T 1 (.slice (some ⟨g, 0, none⟩) n c) n (Go.Proofs.Ytbnpdaipgamgkaa.HelpInt.iv l)) (q : Nat) :
    (Sort.putRow (Value.int .i64) (Sort.ahead w q) g 0 m.toArray).ownsRow b T 1 (.slice (some ⟨g, 0, none⟩) n c) n (Go.Proofs.Ytbnpdaipgamgkaa.HelpInt.iv m) ∧ w.grownBy (Sort.putRow (Value.int .i64) (Sort.ahead w q) g 0 m.toArray) (some g) := by
  have hH := own_holds hn h
  rw [Lib.putRow_eq_setCells (Value.int .i64) w g 0 l.toArray m q hH (by simp; omega)]
  have hd : w.grownBy (w.drewN q) (some g) := ⟨rfl, rfl, rfl, Nat.le_refl _, fun _ _ _ => rfl⟩
  have h0 : w.grownBy (w.drewN q) none := ⟨rfl, rfl, rfl, Nat.le_refl _, fun _ _ _ => rfl⟩
  have h1 := h.kept h0 (by simp [Value.ownBlock])
  have hl : (Go.Proofs.Ytbnpdaipgamgkaa.HelpInt.iv l).length = n := by unfold Go.Proofs.Ytbnpdaipgamgkaa.HelpInt.iv; simp [hn]
  have h2 := Go.Proofs.Ytbnpdaipgamgkaa.GoK.own_setCells (m.map (Value.int .i64)) 0 h1 (by rw [List.length_map]; omega)
  have e : (Go.Proofs.Ytbnpdaipgamgkaa.HelpInt.iv l).take 0 ++ m.map (Value.int .i64) ++ (Go.Proofs.Ytbnpdaipgamgkaa.HelpInt.iv l).drop (0 + (m.map (Value.int .i64)).length) = Go.Proofs.Ytbnpdaipgamgkaa.HelpInt.iv m := by
    rw [List.length_map, Nat.zero_add, hm, List.drop_of_length_le (by omega)]
    simp [Go.Proofs.Ytbnpdaipgamgkaa.HelpInt.iv]
  rw [e] at h2
  exact ⟨h2.1, Aid.grown_tr hd h2.2⟩
def bts (l : List ByteArray) : List (List UInt8) := l.map (·.data.toList)
def unb (l : List (List UInt8)) : List ByteArray := l.map fun x => ⟨x.toArray⟩
theorem unb_bts (l : List ByteArray) : unb (bts l) = l := by
  unfold unb bts
  rw [List.map_map]
  have : ((fun x : List UInt8 => (⟨x.toArray⟩ : ByteArray)) ∘ fun x : ByteArray => x.data.toList) = id := by
    funext x; obtain ⟨⟨l⟩⟩ := x; rfl
  rw [this, List.map_id]
theorem bts_len (l : List ByteArray) : (bts l).length = l.length := by simp [bts]
theorem unb_len (l : List (List UInt8)) : (unb l).length = l.length := by simp [unb]
theorem unb_map (l : List (List UInt8)) : (unb l).map Value.string = l.map Go.Proofs.encStr := by
  unfold unb
  rw [List.map_map]; rfl
theorem own_holdsS {b T n c g : Nat} {w : World} {l : List ByteArray} (hn : l.length = n) (h : w.ownsRow b T 1 (.slice (some ⟨g, 0, none⟩) n c) n (l.map Value.string)) : Sort.Holds Go.Proofs.encStr w g 0 (bts l).toArray := by
  intro j hj
  have hj' : j < l.length := by simpa [bts] using hj
  refine ⟨?_, h.frozenAt _⟩
  obtain ⟨ad, ea, hc⟩ := (own_cells h).2 (by rw [List.length_map]; omega)
  obtain rfl := Option.some.inj ea
  have hu : (l.map Value.string)[j]? = some (.string l[j]) := by simp [hj']
  have := hc j _ hu
  rw [add_flat] at this
  simp only [Nat.zero_add] at this ⊢
  rw [this]
  simp [bts, hj', Go.Proofs.encStr]
theorem own_putS {b T n c g : Nat} {w : World} {l : List ByteArray} {m : List (List UInt8)} (hn : l.length = n) (hm : m.length = n) (h : w.ownsRow b T 1 (.slice (some ⟨g, 0, none⟩) n c) n (l.map Value.string)) (q : Nat) :
    (Sort.putRow Go.Proofs.encStr (Sort.ahead w q) g 0 m.toArray).ownsRow b T 1 (.slice (some ⟨g, 0, none⟩) n c) n ((unb m).map Value.string) ∧ w.grownBy (Sort.putRow Go.Proofs.encStr (Sort.ahead w q) g 0 m.toArray) (some g) := by
  have hH := own_holdsS hn h
  rw [Lib.putRow_eq_setCells Go.Proofs.encStr w g 0 (bts l).toArray m q hH (by simp [bts]; omega)]
  have hd : w.grownBy (w.drewN q) (some g) := ⟨rfl, rfl, rfl, Nat.le_refl _, fun _ _ _ => rfl⟩
  have h0 : w.grownBy (w.drewN q) none := ⟨rfl, rfl, rfl, Nat.le_refl _, fun _ _ _ => rfl⟩
  have h1 := h.kept h0 (by simp [Value.ownBlock])
  have hl : (l.map Value.string).length = n := by simp [hn]
  have h2 := Go.Proofs.Ytbnpdaipgamgkaa.GoK.own_setCells (m.map Go.Proofs.encStr) 0 h1 (by rw [List.length_map]; omega)
  have e : (l.map Value.string).take 0 ++ m.map Go.Proofs.encStr ++ (l.map Value.string).drop (0 + (m.map Go.Proofs.encStr).length) = (unb m).map Value.string := by
    rw [List.length_map, Nat.zero_add, hm, List.drop_of_length_le (by omega), unb_map]
    simp
  rw [e] at h2
  exact ⟨h2.1, Aid.grown_tr hd h2.2⟩
theorem grown_grow (w : World) (os : Array Obj) (r : Option Nat) : w.grownBy (Sort.grow w os) r := by
  refine ⟨rfl, rfl, rfl, by simp [Sort.grow], fun k hk _ => ?_⟩
  show (w.heap ++ os)[k]? = w.heap[k]?
  rw [Array.getElem?_append_left hk]
end Go.Proofs.Ytbnpdaipgamgkaa.GoS

/-
  The contracts of the library functions that this program calls, laid at its own numbers by the shelf of the guide. No condition of their own: each theorem states its premises.
-/
namespace Go.Proofs
open Go.Shelf
def Try.lays128_ren : Go.Shelf.Ren := ⟨fun | 128 => 40 | n => n, fun | 51 => 63 | 3 => 3 | 4 => 4 | 46 => 49 | 5 => 5 | 9 => 9 | n => n, fun | n => n⟩
theorem Try.lays128 : Go.Proofs.Lays.n128 Try.prog Try.lays128_ren := {
  mixed := by kernel_rfl
  f128 := Try.func40.trans (congrArg some (by kernel_rfl))
  t3 := Try.underlying3
  a3 := Try.isAgg3
  z3 := Try.sizeOf3
  v3 := Try.zeroValue3
  t4 := Try.underlying4
  a4 := Try.isAgg4
  z4 := Try.sizeOf4
  v4 := Try.zeroValue4
  t5 := Try.underlying5
  a5 := Try.isAgg5
  z5 := Try.sizeOf5
  v5 := Try.zeroValue5
  t9 := Try.underlying9
  a9 := Try.isAgg9
  z9 := Try.sizeOf9
  v9 := Try.zeroValue9
  t46 := Try.underlying49
  a46 := Try.isAgg49
  z46 := Try.sizeOf49
  v46 := Try.zeroValue49
  t51 := Try.underlying63
  a51 := Try.isAgg63
  z51 := Try.sizeOf63
  v51 := Try.zeroValue63 }
/-- bits.Len32: "Len32 returns the minimum number of bits required to represent x; the result is 0 for x == 0.": IT RETURNS 'Lib.bitLen x'; the world is as it was. ('h0', 'h1': x is a uint32.) (LAID: no walk: one application.) -/
theorem Try.bits_Len32 (x : Int) (w : World) (h0 : 0 ≤ x) (h1 : x ≤ 4294967295) :
    Calls Try.prog 40 #[.int .u32 x] w fun e w' => e = .returned (.int .i64 (Lib.bitLen x.toNat)) ∧ w' = w := Any.bits_Len32 Try.lays128 x w h0 h1
def Try.lays125_ren : Go.Shelf.Ren := ⟨fun | 125 => 26 | 128 => 40 | 129 => 41 | n => n, fun | 46 => 49 | 3 => 3 | 51 => 63 | 53 => 65 | 4 => 4 | 5 => 5 | 9 => 9 | n => n, fun | n => n⟩
theorem Try.lays125 : Go.Proofs.Lays.n125 Try.prog Try.lays125_ren := {
  mixed := by kernel_rfl
  f125 := Try.func26.trans (congrArg some (by kernel_rfl))
  f128 := Try.func40.trans (congrArg some (by kernel_rfl))
  f129 := Try.func41.trans (congrArg some (by kernel_rfl))
  t3 := Try.underlying3
  a3 := Try.isAgg3
  z3 := Try.sizeOf3
  v3 := Try.zeroValue3
  t4 := Try.underlying4
  a4 := Try.isAgg4
  z4 := Try.sizeOf4
  v4 := Try.zeroValue4
  t5 := Try.underlying5
  a5 := Try.isAgg5
  z5 := Try.sizeOf5
  v5 := Try.zeroValue5
  t9 := Try.underlying9
  a9 := Try.isAgg9
  z9 := Try.sizeOf9
  v9 := Try.zeroValue9
  t46 := Try.underlying49
  a46 := Try.isAgg49
  z46 := Try.sizeOf49
  v46 := Try.zeroValue49
  t51 := Try.underlying63
  a51 := Try.isAgg63
  z51 := Try.sizeOf63
  v51 := Try.zeroValue63
  t53 := Try.underlying65
  a53 := Try.isAgg65
  z53 := Try.sizeOf65
  v53 := Try.zeroValue65 }
/-- bits.Len: "Len returns the minimum number of bits required to represent x; the result is 0 for x == 0.": IT RETURNS 'Lib.bitLen x'; the world is as it was. (A uint has 64 bits in the model.) ITS CALLEE bits.Len64 IS MET BY ITS OWN CONTRACT OFF THE SHELF (lay that first). (LAID: no walk: one application.) -/
theorem Try.bits_Len (x : Int) (w : World) (h0 : 0 ≤ x) (h1 : x ≤ 18446744073709551615) :
    Calls Try.prog 26 #[.int .u64 x] w fun e w' => e = .returned (.int .i64 (Lib.bitLen x.toNat)) ∧ w' = w := Any.bits_Len Try.lays125 x w h0 h1
def Try.lays129_ren : Go.Shelf.Ren := ⟨fun | 129 => 41 | n => n, fun | 53 => 65 | 3 => 3 | 4 => 4 | 46 => 49 | 5 => 5 | 9 => 9 | n => n, fun | n => n⟩
theorem Try.lays129 : Go.Proofs.Lays.n129 Try.prog Try.lays129_ren := {
  mixed := by kernel_rfl
  f129 := Try.func41.trans (congrArg some (by kernel_rfl))
  t3 := Try.underlying3
  a3 := Try.isAgg3
  z3 := Try.sizeOf3
  v3 := Try.zeroValue3
  t4 := Try.underlying4
  a4 := Try.isAgg4
  z4 := Try.sizeOf4
  v4 := Try.zeroValue4
  t5 := Try.underlying5
  a5 := Try.isAgg5
  z5 := Try.sizeOf5
  v5 := Try.zeroValue5
  t9 := Try.underlying9
  a9 := Try.isAgg9
  z9 := Try.sizeOf9
  v9 := Try.zeroValue9
  t46 := Try.underlying49
  a46 := Try.isAgg49
  z46 := Try.sizeOf49
  v46 := Try.zeroValue49
  t53 := Try.underlying65
  a53 := Try.isAgg65
  z53 := Try.sizeOf65
  v53 := Try.zeroValue65 }
/-- bits.Len64: "Len64 returns the minimum number of bits required to represent x; the result is 0 for x == 0.": IT RETURNS 'Lib.bitLen x'; the world is as it was. ('h0', 'h1': x is a uint64.) (LAID: no walk: one application.) -/
theorem Try.bits_Len64 (x : Int) (w : World) (h0 : 0 ≤ x) (h1 : x ≤ 18446744073709551615) :
    Calls Try.prog 41 #[.int .u64 x] w fun e w' => e = .returned (.int .i64 (Lib.bitLen x.toNat)) ∧ w' = w := Any.bits_Len64 Try.lays129 x w h0 h1
def Try.lays190_ren : Go.Shelf.Ren := ⟨fun | 190 => 17 | 125 => 26 | 258 => 25 | 128 => 40 | 129 => 41 | 302 => 31 | 303 => 32 | 304 => 33 | 305 => 34 | 306 => 35 | 307 => 36 | 308 => 37 | 309 => 38 | 310 => 39 | 333 => 43 | 329 => 44 | 330 => 45 | 334 => 46 | 335 => 47 | 336 => 48 | 344 => 50 | n => n, fun | 31 => 24 | 9 => 9 | 3 => 3 | 46 => 49 | 0 => 0 | 51 => 63 | 53 => 65 | 4 => 4 | 183 => 55 | 182 => 54 | 131 => 60 | 5 => 5 | 218 => 66 | 222 => 70 | 228 => 73 | 229 => 74 | n => n, fun | n => n⟩
theorem Try.lays190 : Go.Proofs.Lays.n190 Try.prog Try.lays190_ren := {
  mixed := by kernel_rfl
  f125 := Try.func26.trans (congrArg some (by kernel_rfl))
  f128 := Try.func40.trans (congrArg some (by kernel_rfl))
  f129 := Try.func41.trans (congrArg some (by kernel_rfl))
  f190 := Try.func17.trans (congrArg some (by kernel_rfl))
  f258 := Try.func25.trans (congrArg some (by kernel_rfl))
  f302 := Try.func31.trans (congrArg some (by kernel_rfl))
  f303 := Try.func32.trans (congrArg some (by kernel_rfl))
  f304 := Try.func33.trans (congrArg some (by kernel_rfl))
  f305 := Try.func34.trans (congrArg some (by kernel_rfl))
  f306 := Try.func35.trans (congrArg some (by kernel_rfl))
  f307 := Try.func36.trans (congrArg some (by kernel_rfl))
  f308 := Try.func37.trans (congrArg some (by kernel_rfl))
  f309 := Try.func38.trans (congrArg some (by kernel_rfl))
  f310 := Try.func39.trans (congrArg some (by kernel_rfl))
  f329 := Try.func44.trans (congrArg some (by kernel_rfl))
  f330 := Try.func45.trans (congrArg some (by kernel_rfl))
  f333 := Try.func43.trans (congrArg some (by kernel_rfl))
  f334 := Try.func46.trans (congrArg some (by kernel_rfl))
  f335 := Try.func47.trans (congrArg some (by kernel_rfl))
  f336 := Try.func48.trans (congrArg some (by kernel_rfl))
  f344 := Try.func50.trans (congrArg some (by kernel_rfl))
  t0 := Try.underlying0
  a0 := Try.isAgg0
  z0 := Try.sizeOf0
  v0 := Try.zeroValue0
  t3 := Try.underlying3
  a3 := Try.isAgg3
  z3 := Try.sizeOf3
  v3 := Try.zeroValue3
  t4 := Try.underlying4
  a4 := Try.isAgg4
  z4 := Try.sizeOf4
  v4 := Try.zeroValue4
  t5 := Try.underlying5
  a5 := Try.isAgg5
  z5 := Try.sizeOf5
  v5 := Try.zeroValue5
  t9 := Try.underlying9
  a9 := Try.isAgg9
  z9 := Try.sizeOf9
  v9 := Try.zeroValue9
  t31 := Try.underlying24
  a31 := Try.isAgg24
  z31 := Try.sizeOf24
  v31 := Try.zeroValue24
  t46 := Try.underlying49
  a46 := Try.isAgg49
  z46 := Try.sizeOf49
  v46 := Try.zeroValue49
  t51 := Try.underlying63
  a51 := Try.isAgg63
  z51 := Try.sizeOf63
  v51 := Try.zeroValue63
  t53 := Try.underlying65
  a53 := Try.isAgg65
  z53 := Try.sizeOf65
  v53 := Try.zeroValue65
  t131 := Try.underlying60
  a131 := Try.isAgg60
  z131 := Try.sizeOf60
  v131 := Try.zeroValue60
  t182 := Try.underlying54
  a182 := Try.isAgg54
  z182 := Try.sizeOf54
  v182 := Try.zeroValue54
  t183 := Try.underlying55
  a183 := Try.isAgg55
  z183 := Try.sizeOf55
  v183 := Try.zeroValue55
  t218 := Try.underlying66
  a218 := Try.isAgg66
  z218 := Try.sizeOf66
  v218 := Try.zeroValue66
  t222 := Try.underlying70
  a222 := Try.isAgg70
  z222 := Try.sizeOf70
  v222 := Try.zeroValue70
  t228 := Try.underlying73
  a228 := Try.isAgg73
  z228 := Try.sizeOf73
  v228 := Try.zeroValue73
  t229 := Try.underlying74
  a229 := Try.isAgg74
  z229 := Try.sizeOf74
  v229 := Try.zeroValue74 }
open Go.Sort Go.RowKit in
theorem Try.slices_Sort_string (blk off cap : Nat) (ss : List (List UInt8)) (w : World) (hH : Holds encStr w blk off ss.toArray) (hblk : blk < w.heap.size) (hsz : ss.length < 4611686018427387904) :
    Calls Try.prog 17 #[.slice (some ⟨blk, off, none⟩) ss.length cap] w fun e w' =>
      e = .returned (.tuple #[]) ∧ ∃ n os, w' = grow (putRow encStr (Sort.ahead w n) blk off (ss.mergeSort fun x y => decide (x ≤ y)).toArray) os := Any.slices_Sort_string Try.lays190 blk off cap ss w hH hblk hsz
def Try.lays194_ren : Go.Shelf.Ren := ⟨fun | 194 => 18 | n => n, fun | 31 => 24 | 9 => 9 | 3 => 3 | 4 => 4 | 0 => 0 | n => n, fun | n => n⟩
theorem Try.lays194 : Go.Proofs.Lays.n194 Try.prog Try.lays194_ren := {
  mixed := by kernel_rfl
  f194 := Try.func18.trans (congrArg some (by kernel_rfl))
  t0 := Try.underlying0
  a0 := Try.isAgg0
  z0 := Try.sizeOf0
  v0 := Try.zeroValue0
  t3 := Try.underlying3
  a3 := Try.isAgg3
  z3 := Try.sizeOf3
  v3 := Try.zeroValue3
  t4 := Try.underlying4
  a4 := Try.isAgg4
  z4 := Try.sizeOf4
  v4 := Try.zeroValue4
  t9 := Try.underlying9
  a9 := Try.isAgg9
  z9 := Try.sizeOf9
  v9 := Try.zeroValue9
  t31 := Try.underlying24
  a31 := Try.isAgg24
  z31 := Try.sizeOf24
  v31 := Try.zeroValue24 }
open Go.RowKit Go.Lib Go.Sort in
/-- slices.Compact at []string, over an array: the library's two loops are walked. (LAID: no walk: one application.) -/
theorem Try.slices_Compact_string_arr (blk off cap : Nat) (d : Array (List UInt8)) (w : World) (hH : Holds encStr w blk off d) (hsz : d.size ≤ 9223372036854775807) (hcap : d.size ≤ cap) :
    Calls Try.prog 18 #[.slice (some ⟨blk, off, none⟩) d.size cap] w fun e w' => e = .returned (.slice (some ⟨blk, off, none⟩) (compactUpTo d d.size).length cap) ∧ ∃ q, w' = putRow encStr (Sort.ahead w q) blk off (compactUpTo d d.size ++ List.replicate (d.size - (compactUpTo d d.size).length) []).toArray := Any.slices_Compact_string_arr Try.lays194 blk off cap d w hH hsz hcap
open Go.RowKit Go.Lib Go.Sort in
/-- slices.Compact at []string: "Compact replaces consecutive runs of equal elements with a single copy. This is like the uniq command found on Unix. Compact modifies the contents of the slice s and returns the modified slice, which may have a smaller length. Compact zeroes the elements between the new length and the original length. The result preserves the nilness of s.": IT RETURNS THE SLICE CUT TO 'Lib.compact zs'; ITS CELLS HOLD 'Lib.compact zs', THEN ZERO VALUES up to the old length; all else is as it was, but for the count of draws. IN THE WORDS OF slices.Sort's CONTRACT ('Holds', 'putRow'): so the everyday 'slices.Sort(xs); xs = slices.Compact(xs)' goes from the one contract to the other. It asks 'zs.length ≤ cap' (every slice's: the reslicing 's[:k]' looks at it). Length 0, nil: '.._empty'. (LAID: no walk: one application.) -/
theorem Try.slices_Compact_string (blk off cap : Nat) (zs : List (List UInt8)) (w : World) (hH : Holds encStr w blk off zs.toArray) (hsz : zs.length ≤ 9223372036854775807) (hcap : zs.length ≤ cap) :
    Calls Try.prog 18 #[.slice (some ⟨blk, off, none⟩) zs.length cap] w fun e w' => e = .returned (.slice (some ⟨blk, off, none⟩) (Lib.compact zs).length cap) ∧ ∃ q, w' = putRow encStr (Sort.ahead w q) blk off (Lib.compact zs ++ List.replicate (zs.length - (Lib.compact zs).length) []).toArray := Any.slices_Compact_string Try.lays194 blk off cap zs w hH hsz hcap
open Go.RowKit Go.Lib Go.Sort in
/-- The same at a slice of length 0, a nil one too: it comes back as it is. (LAID: no walk: one application.) -/
theorem Try.slices_Compact_string_empty (a : Option Addr) (cap : Nat) (w : World) :
    Calls Try.prog 18 #[.slice a 0 cap] w fun e w' => e = .returned (.slice a 0 cap) ∧ w' = w := Any.slices_Compact_string_empty Try.lays194 a cap w
open Go.RowKit Go.Lib Go.Sort in
/-- slices.Compact at []string, of an argument. (LAID: no walk: one application.) -/
theorem Try.slices_Compact_string_cells (b off n c : Nat) (Sx : Nat → ByteArray) (w : World) (hbig : n ≤ 9223372036854775807) (hcap : n ≤ c) (hc : ∀ i, i < n → w.cell? ⟨b, off + i, none⟩ = some (.string (Sx i))) (hf : ∀ j, j < n → w.frozen? ⟨b, off + j, none⟩ = false) :
    Calls Try.prog 18 #[.slice (some ⟨b, off, none⟩) n c] w fun e w' => e = .returned (.slice (some ⟨b, off, none⟩) (Lib.compact (Lib.strsOf Sx n)).length c) ∧ ∃ q, w' = (w.drewN q).setCells b off ((Lib.compact (Lib.strsOf Sx n) ++ List.replicate (n - (Lib.compact (Lib.strsOf Sx n)).length) []).map encStr) := Any.slices_Compact_string_cells Try.lays194 b off n c Sx w hbig hcap hc hf
open Go.RowKit Go.Sort in
/-- .. and plain. (LAID: no walk: one application.) -/
theorem Try.slices_Sort_string_none (p : Option Addr) (cap : Nat) (w : World) :
    Calls Try.prog 17 #[.slice p 0 cap] w fun e w' => e = .returned (.tuple #[]) ∧ w' = w := Any.slices_Sort_string_none Try.lays190 p cap w
end Go.Proofs

/- slices.Sort of texts as a plain function; the contract of the program's. No condition. -/
namespace Go.Proofs.Ytbnpdaipgamgkaa.GxSlicesSortStringString
set_option linter.unusedVariables false
open Go.RowKit
open Go.Proofs.Ytbnpdaipgamgkaa.Turn Go.Proofs.Ytbnpdaipgamgkaa.GoM
def P (x_0 : List ByteArray) : Option (List ByteArray) := if x_0.length < 4611686018427387904 then some (Go.Proofs.Ytbnpdaipgamgkaa.GoS.unb ((Go.Proofs.Ytbnpdaipgamgkaa.GoS.bts x_0).mergeSort fun x y => decide (x ≤ y))) else none
theorem C (x_0 : List ByteArray) (A0 : Option Addr) (c0 : Nat) (b0 : Nat) (w : World) (M0 : Hid (w.ownsRow b0 9 1 (.slice A0 x_0.length c0) x_0.length (x_0.map Value.string))) (N0 : Hid (x_0.length ≤ 9223372036854775807)) {l_ : List ByteArray} (H : Hid (P x_0 = some l_)) :
    Calls Try.prog 17 #[.slice A0 x_0.length c0] w (fun e w' => e = .returned (.tuple #[]) ∧ w'.ownsRow b0 9 1 (.slice A0 x_0.length c0) x_0.length (l_.map Value.string) ∧ l_.length = x_0.length ∧ w.grownBy w' (Value.slice A0 x_0.length c0).ownBlock) := by
  have h : P x_0 = some l_ := H
  unfold P at h
  by_cases hl : x_0.length < 4611686018427387904
  · rw [if_pos hl] at h
    obtain rfl := Option.some.inj h
    have M := M0.out
    by_cases hz : x_0 = []
    · subst hz
      refine (Try.slices_Sort_string_none A0 c0 w).mono ?_
      rintro e w' ⟨rfl, rfl⟩
      have e0 : ((Go.Proofs.Ytbnpdaipgamgkaa.GoS.bts []).mergeSort fun x y => decide (x ≤ y)) = [] := List.eq_nil_of_length_eq_zero (by simp [Go.Proofs.Ytbnpdaipgamgkaa.GoS.bts])
      rw [e0]
      exact ⟨rfl, M, rfl, Aid.grown_refl _ _⟩
    · have hpos : 0 < x_0.length := List.length_pos_iff.2 hz
      obtain ⟨g, rfl⟩ := own_some M hpos
      have hg := (M.lt g (by simp [Value.ownBlock])).2
      have hbl := Go.Proofs.Ytbnpdaipgamgkaa.GoS.bts_len x_0
      have con := Try.slices_Sort_string g 0 c0 (Go.Proofs.Ytbnpdaipgamgkaa.GoS.bts x_0) w (Go.Proofs.Ytbnpdaipgamgkaa.GoS.own_holdsS rfl M) hg (by omega)
      rw [hbl] at con
      refine con.mono ?_
      rintro e w' ⟨rfl, n, os, rfl⟩
      have hm : ((Go.Proofs.Ytbnpdaipgamgkaa.GoS.bts x_0).mergeSort fun x y => decide (x ≤ y)).length = x_0.length := by rw [List.length_mergeSort, hbl]
      obtain ⟨h1, h2⟩ := Go.Proofs.Ytbnpdaipgamgkaa.GoS.own_putS (m := (Go.Proofs.Ytbnpdaipgamgkaa.GoS.bts x_0).mergeSort fun x y => decide (x ≤ y)) rfl hm M n
      have h3 := Go.Proofs.Ytbnpdaipgamgkaa.GoS.grown_grow (Sort.putRow Go.Proofs.encStr (Sort.ahead w n) g 0 ((Go.Proofs.Ytbnpdaipgamgkaa.GoS.bts x_0).mergeSort fun x y => decide (x ≤ y)).toArray) os none
      exact ⟨rfl, h1.kept h3 (by simp [Value.ownBlock]), by rw [Go.Proofs.Ytbnpdaipgamgkaa.GoS.unb_len, hm], Aid.grown_tr h2 (Go.Proofs.Ytbnpdaipgamgkaa.GoS.grown_grow _ os _)⟩
  · rw [if_neg hl] at h; simp at h
end Go.Proofs.Ytbnpdaipgamgkaa.GxSlicesSortStringString

/- slices.Compact of texts as a plain function; the contract of the program's. No condition. -/
namespace Go.Proofs.Ytbnpdaipgamgkaa.GxSlicesCompactStringString
set_option linter.unusedVariables false
open Go.RowKit
open Go.Proofs.Ytbnpdaipgamgkaa.Turn Go.Proofs.Ytbnpdaipgamgkaa.GoM
def P (s_0 : List ByteArray) : Option (List ByteArray) := some (Go.Proofs.Ytbnpdaipgamgkaa.GoS.unb (Lib.compact (Go.Proofs.Ytbnpdaipgamgkaa.GoS.bts s_0)))
theorem C (s_0 : List ByteArray) (A0 : Option Addr) (c0 : Nat) (b0 : Nat) (w : World) (M0 : Hid (w.ownsRow b0 9 1 (.slice A0 s_0.length c0) s_0.length (s_0.map Value.string))) (N0 : Hid (s_0.length ≤ 9223372036854775807)) (LB : Hid (b0 ≤ w.heap.size)) {r : List ByteArray} (H : Hid (P s_0 = some r)) :
    Calls Try.prog 18 #[.slice A0 s_0.length c0] w (fun e w' => ∃ A_r c_r, e = .returned (.slice A_r r.length c_r) ∧ w'.ownsRow b0 9 1 (.slice A_r r.length c_r) r.length (r.map Value.string) ∧ w.grownBy w' (Value.slice A0 s_0.length c0).ownBlock ∧ Go.Proofs.Ytbnpdaipgamgkaa.GoK.From w A0 A_r) := by
  have h : P s_0 = some r := H
  unfold P at h
  obtain rfl := Option.some.inj h
  have M := M0.out
  by_cases hz : s_0 = []
  · subst hz
    refine (Try.slices_Compact_string_empty A0 c0 w).mono ?_
    rintro e w' ⟨rfl, rfl⟩
    exact ⟨A0, c0, rfl, M, Aid.grown_refl _ _, Go.Proofs.Ytbnpdaipgamgkaa.GoK.from_self⟩
  · have hpos : 0 < s_0.length := List.length_pos_iff.2 hz
    obtain ⟨g, rfl⟩ := own_some M hpos
    have hbl := Go.Proofs.Ytbnpdaipgamgkaa.GoS.bts_len s_0
    have hle := Lib.compact_length_le (Go.Proofs.Ytbnpdaipgamgkaa.GoS.bts s_0)
    have hR := own_room M
    have con := Try.slices_Compact_string g 0 c0 (Go.Proofs.Ytbnpdaipgamgkaa.GoS.bts s_0) w (Go.Proofs.Ytbnpdaipgamgkaa.GoS.own_holdsS rfl M) (by have := N0.out; omega) (by have := hR.1; omega)
    rw [hbl] at con
    refine con.mono ?_
    rintro e w' ⟨rfl, q, rfl⟩
    obtain ⟨h1, h2⟩ := Go.Proofs.Ytbnpdaipgamgkaa.GoS.own_putS (m := Lib.compact (Go.Proofs.Ytbnpdaipgamgkaa.GoS.bts s_0) ++ List.replicate (s_0.length - (Lib.compact (Go.Proofs.Ytbnpdaipgamgkaa.GoS.bts s_0)).length) []) rfl (by rw [List.length_append, List.length_replicate]; omega) M q
    obtain ⟨i0, hi, hz0, hz1, hz2⟩ := Aid.info_parts (P := Try.prog) (T := 9) (z := .string ByteArray.empty) (s := 1) (b := 16) (by kernel_rfl)
    have h3 := (slice_head (P := Try.prog) (t := 24) (k := .i64) (hi := ((Lib.compact (Go.Proofs.Ytbnpdaipgamgkaa.GoS.bts s_0)).length : Int)) (m := (Lib.compact (Go.Proofs.Ytbnpdaipgamgkaa.GoS.bts s_0)).length) (ys := (Go.Proofs.Ytbnpdaipgamgkaa.GoS.unb (Lib.compact (Go.Proofs.Ytbnpdaipgamgkaa.GoS.bts s_0))).map Value.string) (by kernel_rfl) (by kernel_rfl) hi hz1 h1 ⟨by omega, by omega⟩ (by omega) (by
      rw [Go.Proofs.Ytbnpdaipgamgkaa.GoS.unb_map, Go.Proofs.Ytbnpdaipgamgkaa.GoS.unb_map, List.map_append, Int.toNat_natCast, Nat.mul_one, List.take_left' (by simp)])).2
    rw [Go.Proofs.Ytbnpdaipgamgkaa.GoS.unb_len]
    exact ⟨_, c0, rfl, h3, h2, Go.Proofs.Ytbnpdaipgamgkaa.GoK.from_self⟩
end Go.Proofs.Ytbnpdaipgamgkaa.GxSlicesCompactStringString

/- loop.example/g01062/impl.MarkNames as a plain function, and the contract of the program's: where the plain one has an answer, the program has it. Conditions: slices read as lists. -/
namespace Go.Proofs.Ytbnpdaipgamgkaa.GiMarkNames
set_option linter.unusedVariables false
set_option linter.unusedSimpArgs false
open Go.RowKit
open Go.Proofs.Ytbnpdaipgamgkaa.Rowed Go.Proofs.Ytbnpdaipgamgkaa.Turn Go.Proofs.Ytbnpdaipgamgkaa.Aid Go.Proofs.Ytbnpdaipgamgkaa.GoP Go.Proofs.Ytbnpdaipgamgkaa.GoM

def l0 (list : (List Go.Proofs.Ytbnpdaipgamgkaa.PPaper.Paper)) (k0 : Nat) (s : (List ByteArray)) (nx0 bk0 : (List ByteArray) → Option ((List ByteArray) × Bool)) : Option ((List ByteArray) × Bool) :=
  letK s fun names_4l0 =>
  Option.bind (idx list (k0 : Int)) fun (yt_14 : Go.Proofs.Ytbnpdaipgamgkaa.PPaper.Paper) =>
  unPaper yt_14 fun (t_14_id : Int) (t_14_thick : Int) (t_14_tint : Int) (t_14_mark : ByteArray) (t_14_laid : Bool) =>
  letK (!t_14_mark.toList.isEmpty) fun (t_20 : Bool) =>
  iteK t_20
  (guardK (names_4l0.length ≤ 1099511627776) <|
  letK (names_4l0 ++ [t_14_mark]) fun (t_25 : (List ByteArray)) =>
  appK nx0 (t_25))
  (appK nx0 (names_4l0))

def e0  (s : (List ByteArray)) : Option ((List ByteArray) × Bool) :=
  letK s fun names_4l0 =>
  Option.bind (Go.Proofs.Ytbnpdaipgamgkaa.GxSlicesSortStringString.P names_4l0) fun (lt_30 : (List ByteArray)) =>
  Option.bind (Go.Proofs.Ytbnpdaipgamgkaa.GxSlicesCompactStringString.P lt_30) fun (t_32 : (List ByteArray)) =>
  some (t_32, true)

def P (list : (List Go.Proofs.Ytbnpdaipgamgkaa.PPaper.Paper)) : Option ((List ByteArray) × Bool) :=
  Option.bind (Go.Proofs.Ytbnpdaipgamgkaa.GiArePapers.P list) fun (t_3 : Bool) =>
  letK (!t_3) fun (t_4 : Bool) =>
  iteK t_4
  (some (([] : List ByteArray), false))
  (cntK (l0 list) (list.length) 0 (([] : List ByteArray)) (e0 ))

set_option maxRecDepth 100000 in
set_option maxHeartbeats 2000000 in
theorem C (list : (List Go.Proofs.Ytbnpdaipgamgkaa.PPaper.Paper)) (A0 : Option Addr) (c0 : Nat)  (w : World) (M0 : Hid (Cells w 5 A0 list.length (Go.Proofs.Ytbnpdaipgamgkaa.PPaper.flat list))) (N0 : Hid (list.length ≤ 9223372036854775807))  {r0 : (List ByteArray)} {r1 : Bool} (H : Hid (P list = some (r0, r1))) :
    Calls Try.prog 7 #[.slice A0 list.length c0] w (fun e w' => ∃ A_r0 c_r0, e = .returned (.tuple #[.slice A_r0 r0.length c_r0, .bool r1]) ∧ w'.ownsRow w.heap.size 9 1 (.slice A_r0 r0.length c_r0) r0.length (r0.map Value.string) ∧ Below w.heap.size w w') := by
  have HB := Lib.hid (Below.refl w.heap.size w)
  unfold P at H
  have N0o := N0.out
  obtain ⟨i0_9, hi_9, hz0_9, hz1_9, hz2_9⟩ := Aid.info_parts (P := Try.prog) (T := 9) (z := .string ByteArray.empty) (s := 1) (b := 16) (by kernel_rfl)
  go_enter Try.func7, Try.ntmps7
  replace H := bind_hid H
  obtain ⟨t_3, qt_3, H⟩ := H
  go_wp2_with fail
  go_at_call 16
  refine (Go.Proofs.Ytbnpdaipgamgkaa.GiArePapers.C (list) A0 c0 _   (Lib.hid (Cells.below M0.out HB.out)) N0 qt_3).mono ?_
  rintro e_t_3 wt_3 ⟨rfl, bt_3⟩
  have HBwt_3 := Lib.hid (Below.step HB.out bt_3)
  clear bt_3
  cases t_3 with
  | false =>
    replace H := let_hid H
    obtain ⟨t_4, ht_4, H⟩ := H
    obtain rfl : t_4 = true := ht_4.symm
    replace H := ite_t H
    obtain ⟨w_t_5, hw_t_5⟩ : ∃ x, wt_3.alloc (.cells #[] 9) = x := ⟨_, rfl⟩
    have bw_t_5 : Below wt_3.heap.size wt_3 w_t_5 := by rw [← hw_t_5]; exact (Below.refl _ _).alloc (Nat.le_refl _) _
    have Ot_5 : Hid (w_t_5.ownsRow w.heap.size 9 1 (.slice (some ⟨wt_3.heap.size, 0, none⟩) 0 0) 0 []) := Lib.hid (by rw [← hw_t_5]; exact own_empty HBwt_3.out.size)
    have HBw_t_5 := Lib.hid (Below.step HBwt_3.out bw_t_5)
    clear bw_t_5
    cases ret_hid H
    go_wp2_with fail
    go_ret2
    exact ⟨(some ⟨wt_3.heap.size, 0, none⟩), 0, rfl, Ot_5.out, HBw_t_5.out⟩
  | true =>
    replace H := let_hid H
    obtain ⟨t_4, ht_4, H⟩ := H
    obtain rfl : t_4 = false := ht_4.symm
    replace H := ite_f H
    obtain ⟨w_t_8, hw_t_8⟩ : ∃ x, wt_3.alloc (.cells #[] 9) = x := ⟨_, rfl⟩
    have bw_t_8 : Below wt_3.heap.size wt_3 w_t_8 := by rw [← hw_t_8]; exact (Below.refl _ _).alloc (Nat.le_refl _) _
    have Ot_8 : Hid (w_t_8.ownsRow w.heap.size 9 1 (.slice (some ⟨wt_3.heap.size, 0, none⟩) 0 0) 0 []) := Lib.hid (by rw [← hw_t_8]; exact own_empty HBwt_3.out.size)
    have HBw_t_8 := Lib.hid (Below.step HBwt_3.out bw_t_8)
    clear bw_t_8
    go_wp2_with fail
    go_loopg [14, 4] (list.length) (fun m_ v14_ v4_ wr => ∃ (k0 : Nat) (names_4l0 : (List ByteArray)) (Anames_4l0 : Option Addr) (cnames_4l0 : Nat), k0 + m_ = list.length ∧ v14_ = .int .i64 (k0 : Int) ∧ v4_ = .slice Anames_4l0 names_4l0.length cnames_4l0 ∧ Hid (cntK (l0 list) m_ k0 (names_4l0) (e0 ) = some (r0, r1)) ∧ Hid (Below w.heap.size w wr) ∧ Hid (wr.ownsRow w.heap.size 9 1 (.slice Anames_4l0 names_4l0.length cnames_4l0) names_4l0.length (names_4l0.map Value.string)))
    case atStart => exact ⟨0, _, _, _, by omega, rfl, rfl, H, HBw_t_8, Ot_8⟩
    case round =>
      obtain ⟨k0, names_4l0, Anames_4l0, cnames_4l0, hkm0, rfl, rfl, H, HBwr0, Onames_4l0⟩ := hrel
      rename World => wr0
      cases gk with
      | zero =>
        obtain rfl : k0 = list.length := by omega
        have hc0 : decide (((list.length : Nat) : Int) < ((list.length : Nat) : Int)) = false := by simp
        replace H := cnt_zero H
        unfold e0 at H
        replace H := let_hid H
        obtain ⟨_, rfl, H⟩ := H
        replace H := bind_hid H
        obtain ⟨lt_30, qt_30, H⟩ := H
        go_wp2_with fail
        go_at_call 17
        refine (Go.Proofs.Ytbnpdaipgamgkaa.GxSlicesSortStringString.C (names_4l0) Anames_4l0 cnames_4l0 w.heap.size _   Onames_4l0 (Lib.hid (own_max Onames_4l0.out))   qt_30).mono ?_
        rintro e_t_30 wt_30 ⟨rfl, ot_30, nt_30, gt_30⟩
        have Pt_30 := Lib.hid ot_30
        have Gt_30 := Lib.hid gt_30
        replace nt_30 := Lib.hid nt_30
        clear ot_30 gt_30
        have HBwt_30 := Lib.hid (HBwr0.out.grown Gt_30.out HBwr0.out.size (fun q hq => (Onames_4l0.out.lt q hq).1))
        clear Onames_4l0 Gt_30
        replace H := bind_hid H
        obtain ⟨t_32, qt_32, H⟩ := H
        go_wp2_with fail
        have hc0_ := nt_30.out
        have Oct_32_1 := Lib.hid (own_len hc0_ Pt_30.out)
        have con_ := Go.Proofs.Ytbnpdaipgamgkaa.GxSlicesCompactStringString.C (lt_30) Anames_4l0 cnames_4l0 w.heap.size _   Oct_32_1 (Lib.hid (own_max Oct_32_1.out)) (Lib.hid HBwt_30.out.size)  qt_32
        rw [hc0_] at con_
        clear hc0_ Oct_32_1
        go_at_call 18
        refine con_.mono ?_
        rintro e_t_32 wt_32 ⟨At_32, ct_32, rfl, ot_32, gt_32, yt_32⟩
        have Pt_32 := Lib.hid ot_32
        have Gt_32 := Lib.hid gt_32
        replace yt_32 := Lib.hid yt_32
        clear ot_32 gt_32
        have HBwt_32 := Lib.hid (HBwt_30.out.grown Gt_32.out HBwt_30.out.size (fun q hq => (Pt_30.out.lt q hq).1))
        clear Pt_30 Gt_32 yt_32
        cases ret_hid H
        go_wp2_with fail
        go_ret2
        exact ⟨At_32, ct_32, rfl, Pt_32.out, HBwt_32.out⟩
      | succ m0 =>
        have hlt0 : k0 < list.length := by omega
        have hc0 : decide ((k0 : Int) < ((list.length : Nat) : Int)) = true := by simp; omega
        replace H := cnt_succ H
        unfold l0 at H
        replace H := let_hid H
        obtain ⟨_, rfl, H⟩ := H
        replace H := idx_hid H
        obtain ⟨nt_14, yt_14, et_14, lt_14, gt_14, H⟩ := H
        obtain rfl : k0 = nt_14 := by omega
        clear et_14
        obtain ⟨t_14_id, t_14_thick, t_14_tint, t_14_mark, t_14_laid⟩ := yt_14
        replace H := unPaper_hid H
        obtain ⟨ab_t_14, ao_t_14, zt_14, At_14, z_t_14, ct_14_0, ct_14_1, ct_14_2, ct_14_3, ct_14_4⟩ := Go.Proofs.Ytbnpdaipgamgkaa.OPaper.at_ M0.out lt_14
        obtain rfl := Option.some.inj (gt_14.out.symm.trans z_t_14)
        subst At_14
        have ltt_14 := cell_lt ct_14_0
        replace ct_14_0 := cell_below HBwr0.out ct_14_0
        replace ct_14_1 := cell_below HBwr0.out ct_14_1
        replace ct_14_2 := cell_below HBwr0.out ct_14_2
        replace ct_14_3 := cell_below HBwr0.out ct_14_3
        replace ct_14_4 := cell_below HBwr0.out ct_14_4
        clear z_t_14
        have b0t_14 : (0 : Int) ≤ (k0 : Int) := by omega
        have b1t_14 : (k0 : Int) < ((list.length : Nat) : Int) := by omega
        have b2t_14 : ((k0 : Int)).toNat = k0 := by omega
        obtain ⟨w_p_16, hw_p_16⟩ : ∃ x, wr0.alloc (.cells #[.int .i64 t_14_id, .int .i64 t_14_thick, .int .i64 t_14_tint, .string t_14_mark, .bool t_14_laid] 38) = x := ⟨_, rfl⟩
        have bw_p_16 : Below wr0.heap.size wr0 w_p_16 := by rw [← hw_p_16]; exact (Below.refl _ _).alloc (Nat.le_refl _) _
        have Dp_16_names_4l0 := Lib.hid (apart_fresh Onames_4l0.out)
        have HBw_p_16 := Lib.hid (Below.step HBwr0.out bw_p_16)
        have ct_14_0__155 := cell_below bw_p_16 ct_14_0
        have ct_14_1__156 := cell_below bw_p_16 ct_14_1
        have ct_14_2__157 := cell_below bw_p_16 ct_14_2
        have ct_14_3__158 := cell_below bw_p_16 ct_14_3
        have ct_14_4__159 := cell_below bw_p_16 ct_14_4
        replace Onames_4l0 := Lib.hid (own_below Onames_4l0.out bw_p_16)
        clear bw_p_16
        have kp_16_0 : w_p_16.cell? ⟨wr0.heap.size, 0, none⟩ = some (.int .i64 t_14_id) := by rw [← hw_p_16]; exact box_new _ _ _ 0 _ rfl
        have kp_16_1 : w_p_16.cell? ⟨wr0.heap.size, 1, none⟩ = some (.int .i64 t_14_thick) := by rw [← hw_p_16]; exact box_new _ _ _ 1 _ rfl
        have kp_16_2 : w_p_16.cell? ⟨wr0.heap.size, 2, none⟩ = some (.int .i64 t_14_tint) := by rw [← hw_p_16]; exact box_new _ _ _ 2 _ rfl
        have kp_16_3 : w_p_16.cell? ⟨wr0.heap.size, 3, none⟩ = some (.string t_14_mark) := by rw [← hw_p_16]; exact box_new _ _ _ 3 _ rfl
        have kp_16_4 : w_p_16.cell? ⟨wr0.heap.size, 4, none⟩ = some (.bool t_14_laid) := by rw [← hw_p_16]; exact box_new _ _ _ 4 _ rfl
        replace H := let_hid H
        obtain ⟨t_20, ht_20, H⟩ := H
        cases t_20 with
        | false =>
          replace H := ite_f H
          replace H := app_hid H
          go_wp2_with fail
          clear ct_14_0 ct_14_1 ct_14_2 ct_14_3 ct_14_4
          go_roundg m0
          case measure => omega
          case rel => exact ⟨k0 + 1, _, _, _, by omega, by go_num, rfl, H, HBw_p_16, Onames_4l0⟩
        | true =>
          replace H := ite_t H
          obtain ⟨w_t_24, hw_t_24⟩ : ∃ x, w_p_16.alloc (.cells #[.string t_14_mark] 9) = x := ⟨_, rfl⟩
          have bw_t_24 : Below w_p_16.heap.size w_p_16 w_t_24 := by rw [← hw_t_24]; exact (Below.refl _ _).alloc (Nat.le_refl _) _
          have HBw_t_24 := Lib.hid (Below.step HBw_p_16.out bw_t_24)
          have ct_14_0__160 := cell_below bw_t_24 ct_14_0__155
          have ct_14_1__161 := cell_below bw_t_24 ct_14_1__156
          have ct_14_2__162 := cell_below bw_t_24 ct_14_2__157
          have ct_14_3__163 := cell_below bw_t_24 ct_14_3__158
          have ct_14_4__164 := cell_below bw_t_24 ct_14_4__159
          have kp_16_0__165 := cell_below bw_t_24 kp_16_0
          have kp_16_1__166 := cell_below bw_t_24 kp_16_1
          have kp_16_2__167 := cell_below bw_t_24 kp_16_2
          have kp_16_3__168 := cell_below bw_t_24 kp_16_3
          have kp_16_4__169 := cell_below bw_t_24 kp_16_4
          replace Onames_4l0 := Lib.hid (own_below Onames_4l0.out bw_t_24)
          clear bw_t_24
          replace H := guard_hid H
          obtain ⟨hlt_25, H⟩ := H
          replace H := let_hid H
          obtain ⟨t_25, ht_25, H⟩ := H
          have hht_25 := Lib.hid ht_25
          clear ht_25
          have hst_25 := HBw_t_24.out.size
          go_wp2_with (at_builtin; refine wpList_append_own_at _ rfl _ _ 24 rfl w.heap.size 9 i0_9 (.string ByteArray.empty) 1 16 Try.underlying24 hi_9 hz0_9 hz1_9 hz2_9 rfl (by decide) _ _ _ rfl Onames_4l0.out ⟨w_p_16.heap.size, 0, none⟩ 1 1 [.string t_14_mark] rfl rfl (news_new hw_t_24) (one_cells rfl) (by unfold maxLen; omega) (by omega) hst_25 ?_; intro vt_25 wt_25 ot_25 gt_25 zt_25 yt_25; clear zt_25; obtain ⟨qt_25, ct_25, rfl, pt_25⟩ := own_push hht_25.out (by simp) rfl ot_25; have Pt_25 := Lib.hid pt_25; have Yt_25 := Lib.hid yt_25; have Gt_25 := Lib.hid gt_25; clear ot_25 gt_25 pt_25 yt_25; refine stop_in ?_)
          refine stop_out ?_
          have HBwt_25 := Lib.hid (HBw_t_24.out.grown Gt_25.out hst_25 (fun q hq => (Onames_4l0.out.lt q hq).1))
          clear hst_25
          have Dt_25_p_16 : Hid (Apart (some ⟨qt_25, 0, none⟩) _) := Lib.hid (apart_app (Apart.symm Dp_16_names_4l0.out) (fun a_ ha_ => by cases ha_; exact cell_lt kp_16_0__165) Yt_25.out)
          replace ct_14_0__160 := cell_other ct_14_0__160 Gt_25.out (apart_old Onames_4l0.out ltt_14)
          replace ct_14_1__161 := cell_other ct_14_1__161 Gt_25.out (apart_old Onames_4l0.out ltt_14)
          replace ct_14_2__162 := cell_other ct_14_2__162 Gt_25.out (apart_old Onames_4l0.out ltt_14)
          replace ct_14_3__163 := cell_other ct_14_3__163 Gt_25.out (apart_old Onames_4l0.out ltt_14)
          replace ct_14_4__164 := cell_other ct_14_4__164 Gt_25.out (apart_old Onames_4l0.out ltt_14)
          replace kp_16_0__165 := cell_other kp_16_0__165 Gt_25.out (Apart.symm Dp_16_names_4l0.out)
          replace kp_16_1__166 := cell_other kp_16_1__166 Gt_25.out (Apart.symm Dp_16_names_4l0.out)
          replace kp_16_2__167 := cell_other kp_16_2__167 Gt_25.out (Apart.symm Dp_16_names_4l0.out)
          replace kp_16_3__168 := cell_other kp_16_3__168 Gt_25.out (Apart.symm Dp_16_names_4l0.out)
          replace kp_16_4__169 := cell_other kp_16_4__169 Gt_25.out (Apart.symm Dp_16_names_4l0.out)
          clear ct_14_0 ct_14_1 ct_14_2 ct_14_3 ct_14_4 ct_14_0__155 ct_14_1__156 ct_14_2__157 ct_14_3__158 ct_14_4__159 kp_16_0 kp_16_1 kp_16_2 kp_16_3 kp_16_4
          clear Onames_4l0 Yt_25 Gt_25
          replace H := app_hid H
          go_wp2_with fail
          go_roundg m0
          case measure => omega
          case rel => exact ⟨k0 + 1, _, _, _, by omega, by go_num, rfl, H, HBwt_25, Pt_25⟩
end Go.Proofs.Ytbnpdaipgamgkaa.GiMarkNames

/- loop.example/g01062/laws.eqStringS as a plain function, and the contract of the program's: where the plain one has an answer, the program has it. Conditions: slices read as lists. -/
namespace Go.Proofs.Ytbnpdaipgamgkaa.GlEqStringS
set_option linter.unusedVariables false
set_option linter.unusedSimpArgs false
open Go.RowKit
open Go.Proofs.Ytbnpdaipgamgkaa.Rowed Go.Proofs.Ytbnpdaipgamgkaa.Turn Go.Proofs.Ytbnpdaipgamgkaa.Aid Go.Proofs.Ytbnpdaipgamgkaa.GoP Go.Proofs.Ytbnpdaipgamgkaa.GoM

def l0 (a : (List ByteArray)) (b : (List ByteArray)) (k0 : Nat) (s : Unit) (nx0 bk0 : Unit → Option (Bool)) : Option (Bool) :=
  
  Option.bind (idx a (k0 : Int)) fun (yt_14 : ByteArray) =>
  Option.bind (idx b (k0 : Int)) fun (yt_18 : ByteArray) =>
  letK (!(yt_14.toList == yt_18.toList)) fun (t_20 : Bool) =>
  iteK t_20
  (some false)
  (appK nx0 ())

def e0  (s : Unit) : Option (Bool) :=
  
  some true

def P (a : (List ByteArray)) (b : (List ByteArray)) : Option (Bool) :=
  letK ((a.length : Int) != (b.length : Int)) fun (t_5 : Bool) =>
  iteK t_5
  (some false)
  (cntK (l0 a b) (a.length) 0 () (e0 ))

set_option maxRecDepth 100000 in
set_option maxHeartbeats 2000000 in
theorem C (a : (List ByteArray)) (b : (List ByteArray)) (A0 : Option Addr) (c0 : Nat) (A1 : Option Addr) (c1 : Nat)  (w : World) (M0 : Hid (Cells w 1 A0 a.length (a.map Value.string))) (N0 : Hid (a.length ≤ 9223372036854775807)) (M1 : Hid (Cells w 1 A1 b.length (b.map Value.string))) (N1 : Hid (b.length ≤ 9223372036854775807))  {r : Bool} (H : Hid (P a b = some r)) :
    Calls Try.prog 8 #[.slice A0 a.length c0, .slice A1 b.length c1] w (Gives (.bool r) w) := by
  have HB := Lib.hid (Below.refl w.heap.size w)
  unfold P at H
  have N0o := N0.out
  have N1o := N1.out
  go_enter Try.func8, Try.ntmps8
  replace H := let_hid H
  obtain ⟨t_5, ht_5, H⟩ := H
  cases t_5 with
  | false =>
    have Hht_5 : Hid (a.length = b.length) := Lib.hid (by have := bne_eq_false_iff_eq.1 ht_5; omega)
    have nht_5 : (a.length == b.length) = true := beq_iff_eq.2 Hht_5.out
    replace H := ite_f H
    go_wp2_with fail
    go_loopg [5] (a.length) (fun m_ v5_ wr => ∃ (k0 : Nat) , k0 + m_ = a.length ∧ v5_ = .int .i64 (k0 : Int) ∧ Hid (cntK (l0 a b) m_ k0 () (e0 ) = some r) ∧ Hid (Below w.heap.size w wr))
    case atStart => exact ⟨0, by omega, rfl, H, HB⟩
    case round =>
      obtain ⟨k0, hkm0, rfl, H, HBwr0⟩ := hrel
      rename World => wr0
      cases gk with
      | zero =>
        obtain rfl : k0 = a.length := by omega
        have hc0 : decide (((a.length : Nat) : Int) < ((a.length : Nat) : Int)) = false := by simp
        replace H := cnt_zero H
        unfold e0 at H
        obtain rfl := ret_hid H
        go_wp2_with fail
        go_ret
        exact ⟨rfl, HBwr0.out⟩
      | succ m0 =>
        have hlt0 : k0 < a.length := by omega
        have hc0 : decide ((k0 : Int) < ((a.length : Nat) : Int)) = true := by simp; omega
        replace H := cnt_succ H
        unfold l0 at H
        go_wp2_with fail
        replace H := idx_hid H
        obtain ⟨nt_14, yt_14, et_14, lt_14, gt_14, H⟩ := H
        obtain rfl : k0 = nt_14 := by omega
        clear et_14
        obtain ⟨ab_t_14, ao_t_14, zt_14, At_14, z_t_14, ct_14_0⟩ := strs_at M0.out lt_14
        obtain rfl := Option.some.inj (gt_14.out.symm.trans z_t_14)
        subst At_14
        have ltt_14 := cell_lt ct_14_0
        replace ct_14_0 := cell_below HBwr0.out ct_14_0
        clear z_t_14
        have b0t_14 : (0 : Int) ≤ (k0 : Int) := by omega
        have b1t_14 : (k0 : Int) < ((a.length : Nat) : Int) := by omega
        have b2t_14 : ((k0 : Int)).toNat = k0 := by omega
        have Hct_14_0 := Lib.hid ct_14_0
        replace ct_14_0 := cell_regrown ct_14_0
        replace H := idx_hid H
        obtain ⟨nt_18, yt_18, et_18, lt_18, gt_18, H⟩ := H
        obtain rfl : k0 = nt_18 := by omega
        clear et_18
        obtain ⟨ab_t_18, ao_t_18, zt_18, At_18, z_t_18, ct_18_0⟩ := strs_at M1.out lt_18
        obtain rfl := Option.some.inj (gt_18.out.symm.trans z_t_18)
        subst At_18
        have ltt_18 := cell_lt ct_18_0
        replace ct_18_0 := cell_below HBwr0.out ct_18_0
        clear z_t_18
        have b0t_18 : (0 : Int) ≤ (k0 : Int) := by omega
        have b1t_18 : (k0 : Int) < ((b.length : Nat) : Int) := by omega
        have b2t_18 : ((k0 : Int)).toNat = k0 := by omega
        have Hct_18_0 := Lib.hid ct_18_0
        replace ct_18_0 := cell_regrown ct_18_0
        replace H := let_hid H
        obtain ⟨t_20, ht_20, H⟩ := H
        refine wp_region_quiet_below (by kernel_rfl) (by kernel_rfl) ?_
        repeat (go_big_quiet_step (fail))
        refine wpQuiet_nil ?_
        intro Y6 hY6
        replace hY6 := below_class hY6
        replace ct_14_0 := Hct_14_0.out
        clear Hct_14_0
        replace ct_18_0 := Hct_18_0.out
        clear Hct_18_0
        have HBY6 := Lib.hid (Below.step HBwr0.out hY6)
        replace ct_14_0 := cell_below hY6 ct_14_0
        replace ct_18_0 := cell_below hY6 ct_18_0
        clear hY6
        cases t_20 with
        | false =>
          replace H := ite_f H
          replace H := app_hid H
          go_wp2_with fail
          go_roundg m0
          case measure => omega
          case rel => exact ⟨k0 + 1, by omega, by go_num, H, HBY6⟩
        | true =>
          replace H := ite_t H
          obtain rfl := ret_hid H
          go_wp2_with fail
          go_ret
          exact ⟨rfl, HBY6.out⟩
  | true =>
    have nht_5 : ¬ (a.length = b.length) := by have := bne_iff_ne.1 ht_5; omega
    replace H := ite_t H
    obtain rfl := ret_hid H
    go_wp2_with fail
    go_ret
    exact ⟨rfl, HB.out⟩
end Go.Proofs.Ytbnpdaipgamgkaa.GlEqStringS

/- loop.example/g01062/laws.eqPaper as a plain function, and the contract of the program's: where the plain one has an answer, the program has it. Conditions: slices read as lists. -/
namespace Go.Proofs.Ytbnpdaipgamgkaa.GlEqPaper
set_option linter.unusedVariables false
set_option linter.unusedSimpArgs false
open Go.RowKit
open Go.Proofs.Ytbnpdaipgamgkaa.Rowed Go.Proofs.Ytbnpdaipgamgkaa.Turn Go.Proofs.Ytbnpdaipgamgkaa.Aid Go.Proofs.Ytbnpdaipgamgkaa.GoP Go.Proofs.Ytbnpdaipgamgkaa.GoM

def P (a : Go.Proofs.Ytbnpdaipgamgkaa.PPaper.Paper) (b : Go.Proofs.Ytbnpdaipgamgkaa.PPaper.Paper) : Option (Bool) :=
  unPaper a fun (a_id : Int) (a_thick : Int) (a_tint : Int) (a_mark : ByteArray) (a_laid : Bool) =>
  unPaper b fun (b_id : Int) (b_thick : Int) (b_tint : Int) (b_mark : ByteArray) (b_laid : Bool) =>
  letK (a_id != b_id) fun (t_7 : Bool) =>
  iteK t_7
  (some false)
  (letK (a_thick != b_thick) fun (t_13 : Bool) =>
  iteK t_13
  (some false)
  (letK (a_tint != b_tint) fun (t_19 : Bool) =>
  iteK t_19
  (some false)
  (letK (!(a_mark.toList == b_mark.toList)) fun (t_25 : Bool) =>
  iteK t_25
  (some false)
  (letK (!(a_laid == b_laid)) fun (t_31 : Bool) =>
  iteK t_31
  (some false)
  (some true)))))

set_option maxRecDepth 100000 in
set_option maxHeartbeats 2000000 in
theorem C (a : Go.Proofs.Ytbnpdaipgamgkaa.PPaper.Paper) (b : Go.Proofs.Ytbnpdaipgamgkaa.PPaper.Paper)   (w : World)   {r : Bool} (H : Hid (P a b = some r)) :
    Calls Try.prog 19 #[a.val, b.val] w (Gives (.bool r) w) := by
  have HB := Lib.hid (Below.refl w.heap.size w)
  unfold P at H
  obtain ⟨a_id, a_thick, a_tint, a_mark, a_laid⟩ := a
  replace H := unPaper_hid H
  obtain ⟨b_id, b_thick, b_tint, b_mark, b_laid⟩ := b
  replace H := unPaper_hid H
  unfold Go.Proofs.Ytbnpdaipgamgkaa.PPaper.Paper.val
  go_enter Try.func19, Try.ntmps19
  obtain ⟨w_a_0, hw_a_0⟩ : ∃ x, w.alloc (.cells #[.int .i64 a_id, .int .i64 a_thick, .int .i64 a_tint, .string a_mark, .bool a_laid] 38) = x := ⟨_, rfl⟩
  have bw_a_0 : Below w.heap.size w w_a_0 := by rw [← hw_a_0]; exact (Below.refl _ _).alloc (Nat.le_refl _) _
  have HBw_a_0 := Lib.hid (Below.step HB.out bw_a_0)
  clear bw_a_0
  have ka_0_0 : w_a_0.cell? ⟨w.heap.size, 0, none⟩ = some (.int .i64 a_id) := by rw [← hw_a_0]; exact box_new _ _ _ 0 _ rfl
  have ka_0_1 : w_a_0.cell? ⟨w.heap.size, 1, none⟩ = some (.int .i64 a_thick) := by rw [← hw_a_0]; exact box_new _ _ _ 1 _ rfl
  have ka_0_2 : w_a_0.cell? ⟨w.heap.size, 2, none⟩ = some (.int .i64 a_tint) := by rw [← hw_a_0]; exact box_new _ _ _ 2 _ rfl
  have ka_0_3 : w_a_0.cell? ⟨w.heap.size, 3, none⟩ = some (.string a_mark) := by rw [← hw_a_0]; exact box_new _ _ _ 3 _ rfl
  have ka_0_4 : w_a_0.cell? ⟨w.heap.size, 4, none⟩ = some (.bool a_laid) := by rw [← hw_a_0]; exact box_new _ _ _ 4 _ rfl
  obtain ⟨w_b_1, hw_b_1⟩ : ∃ x, w_a_0.alloc (.cells #[.int .i64 b_id, .int .i64 b_thick, .int .i64 b_tint, .string b_mark, .bool b_laid] 38) = x := ⟨_, rfl⟩
  have bw_b_1 : Below w_a_0.heap.size w_a_0 w_b_1 := by rw [← hw_b_1]; exact (Below.refl _ _).alloc (Nat.le_refl _) _
  have HBw_b_1 := Lib.hid (Below.step HBw_a_0.out bw_b_1)
  have ka_0_0__170 := cell_below bw_b_1 ka_0_0
  have ka_0_1__171 := cell_below bw_b_1 ka_0_1
  have ka_0_2__172 := cell_below bw_b_1 ka_0_2
  have ka_0_3__173 := cell_below bw_b_1 ka_0_3
  have ka_0_4__174 := cell_below bw_b_1 ka_0_4
  clear bw_b_1
  have kb_1_0 : w_b_1.cell? ⟨w_a_0.heap.size, 0, none⟩ = some (.int .i64 b_id) := by rw [← hw_b_1]; exact box_new _ _ _ 0 _ rfl
  have kb_1_1 : w_b_1.cell? ⟨w_a_0.heap.size, 1, none⟩ = some (.int .i64 b_thick) := by rw [← hw_b_1]; exact box_new _ _ _ 1 _ rfl
  have kb_1_2 : w_b_1.cell? ⟨w_a_0.heap.size, 2, none⟩ = some (.int .i64 b_tint) := by rw [← hw_b_1]; exact box_new _ _ _ 2 _ rfl
  have kb_1_3 : w_b_1.cell? ⟨w_a_0.heap.size, 3, none⟩ = some (.string b_mark) := by rw [← hw_b_1]; exact box_new _ _ _ 3 _ rfl
  have kb_1_4 : w_b_1.cell? ⟨w_a_0.heap.size, 4, none⟩ = some (.bool b_laid) := by rw [← hw_b_1]; exact box_new _ _ _ 4 _ rfl
  replace H := let_hid H
  obtain ⟨t_7, ht_7, H⟩ := H
  cases t_7 with
  | false =>
    replace H := ite_f H
    replace H := let_hid H
    obtain ⟨t_13, ht_13, H⟩ := H
    cases t_13 with
    | false =>
      replace H := ite_f H
      replace H := let_hid H
      obtain ⟨t_19, ht_19, H⟩ := H
      cases t_19 with
      | false =>
        replace H := ite_f H
        replace H := let_hid H
        obtain ⟨t_25, ht_25, H⟩ := H
        cases t_25 with
        | false =>
          replace H := ite_f H
          replace H := let_hid H
          obtain ⟨t_31, ht_31, H⟩ := H
          cases t_31 with
          | false =>
            replace H := ite_f H
            obtain rfl := ret_hid H
            go_wp2_with fail
            go_ret
            exact ⟨rfl, HBw_b_1.out⟩
          | true =>
            replace H := ite_t H
            obtain rfl := ret_hid H
            go_wp2_with fail
            go_ret
            exact ⟨rfl, HBw_b_1.out⟩
        | true =>
          replace H := ite_t H
          obtain rfl := ret_hid H
          go_wp2_with fail
          go_ret
          exact ⟨rfl, HBw_b_1.out⟩
      | true =>
        replace H := ite_t H
        obtain rfl := ret_hid H
        go_wp2_with fail
        go_ret
        exact ⟨rfl, HBw_b_1.out⟩
    | true =>
      replace H := ite_t H
      obtain rfl := ret_hid H
      go_wp2_with fail
      go_ret
      exact ⟨rfl, HBw_b_1.out⟩
  | true =>
    replace H := ite_t H
    obtain rfl := ret_hid H
    go_wp2_with fail
    go_ret
    exact ⟨rfl, HBw_b_1.out⟩
end Go.Proofs.Ytbnpdaipgamgkaa.GlEqPaper

/- loop.example/g01062/laws.eqPaperS as a plain function, and the contract of the program's: where the plain one has an answer, the program has it. Conditions: slices read as lists. -/
namespace Go.Proofs.Ytbnpdaipgamgkaa.GlEqPaperS
set_option linter.unusedVariables false
set_option linter.unusedSimpArgs false
open Go.RowKit
open Go.Proofs.Ytbnpdaipgamgkaa.Rowed Go.Proofs.Ytbnpdaipgamgkaa.Turn Go.Proofs.Ytbnpdaipgamgkaa.Aid Go.Proofs.Ytbnpdaipgamgkaa.GoP Go.Proofs.Ytbnpdaipgamgkaa.GoM

def l0 (a : (List Go.Proofs.Ytbnpdaipgamgkaa.PPaper.Paper)) (b : (List Go.Proofs.Ytbnpdaipgamgkaa.PPaper.Paper)) (k0 : Nat) (s : Unit) (nx0 bk0 : Unit → Option (Bool)) : Option (Bool) :=
  
  Option.bind (idx a (k0 : Int)) fun (yt_14 : Go.Proofs.Ytbnpdaipgamgkaa.PPaper.Paper) =>
  unPaper yt_14 fun (t_14_id : Int) (t_14_thick : Int) (t_14_tint : Int) (t_14_mark : ByteArray) (t_14_laid : Bool) =>
  Option.bind (idx b (k0 : Int)) fun (yt_18 : Go.Proofs.Ytbnpdaipgamgkaa.PPaper.Paper) =>
  unPaper yt_18 fun (t_18_id : Int) (t_18_thick : Int) (t_18_tint : Int) (t_18_mark : ByteArray) (t_18_laid : Bool) =>
  Option.bind (Go.Proofs.Ytbnpdaipgamgkaa.GlEqPaper.P (Go.Proofs.Ytbnpdaipgamgkaa.PPaper.Paper.mk t_14_id t_14_thick t_14_tint t_14_mark t_14_laid) (Go.Proofs.Ytbnpdaipgamgkaa.PPaper.Paper.mk t_18_id t_18_thick t_18_tint t_18_mark t_18_laid)) fun (t_20 : Bool) =>
  letK (!t_20) fun (t_21 : Bool) =>
  iteK t_21
  (some false)
  (appK nx0 ())

def e0  (s : Unit) : Option (Bool) :=
  
  some true

def P (a : (List Go.Proofs.Ytbnpdaipgamgkaa.PPaper.Paper)) (b : (List Go.Proofs.Ytbnpdaipgamgkaa.PPaper.Paper)) : Option (Bool) :=
  letK ((a.length : Int) != (b.length : Int)) fun (t_5 : Bool) =>
  iteK t_5
  (some false)
  (cntK (l0 a b) (a.length) 0 () (e0 ))

set_option maxRecDepth 100000 in
set_option maxHeartbeats 2000000 in
theorem C (a : (List Go.Proofs.Ytbnpdaipgamgkaa.PPaper.Paper)) (b : (List Go.Proofs.Ytbnpdaipgamgkaa.PPaper.Paper)) (A0 : Option Addr) (c0 : Nat) (A1 : Option Addr) (c1 : Nat)  (w : World) (M0 : Hid (Cells w 5 A0 a.length (Go.Proofs.Ytbnpdaipgamgkaa.PPaper.flat a))) (N0 : Hid (a.length ≤ 9223372036854775807)) (M1 : Hid (Cells w 5 A1 b.length (Go.Proofs.Ytbnpdaipgamgkaa.PPaper.flat b))) (N1 : Hid (b.length ≤ 9223372036854775807))  {r : Bool} (H : Hid (P a b = some r)) :
    Calls Try.prog 9 #[.slice A0 a.length c0, .slice A1 b.length c1] w (Gives (.bool r) w) := by
  have HB := Lib.hid (Below.refl w.heap.size w)
  unfold P at H
  have N0o := N0.out
  have N1o := N1.out
  go_enter Try.func9, Try.ntmps9
  replace H := let_hid H
  obtain ⟨t_5, ht_5, H⟩ := H
  cases t_5 with
  | false =>
    have Hht_5 : Hid (a.length = b.length) := Lib.hid (by have := bne_eq_false_iff_eq.1 ht_5; omega)
    have nht_5 : (a.length == b.length) = true := beq_iff_eq.2 Hht_5.out
    replace H := ite_f H
    go_wp2_with fail
    go_loopg [5] (a.length) (fun m_ v5_ wr => ∃ (k0 : Nat) , k0 + m_ = a.length ∧ v5_ = .int .i64 (k0 : Int) ∧ Hid (cntK (l0 a b) m_ k0 () (e0 ) = some r) ∧ Hid (Below w.heap.size w wr))
    case atStart => exact ⟨0, by omega, rfl, H, HB⟩
    case round =>
      obtain ⟨k0, hkm0, rfl, H, HBwr0⟩ := hrel
      rename World => wr0
      cases gk with
      | zero =>
        obtain rfl : k0 = a.length := by omega
        have hc0 : decide (((a.length : Nat) : Int) < ((a.length : Nat) : Int)) = false := by simp
        replace H := cnt_zero H
        unfold e0 at H
        obtain rfl := ret_hid H
        go_wp2_with fail
        go_ret
        exact ⟨rfl, HBwr0.out⟩
      | succ m0 =>
        have hlt0 : k0 < a.length := by omega
        have hc0 : decide ((k0 : Int) < ((a.length : Nat) : Int)) = true := by simp; omega
        replace H := cnt_succ H
        unfold l0 at H
        go_wp2_with fail
        replace H := idx_hid H
        obtain ⟨nt_14, yt_14, et_14, lt_14, gt_14, H⟩ := H
        obtain rfl : k0 = nt_14 := by omega
        clear et_14
        obtain ⟨t_14_id, t_14_thick, t_14_tint, t_14_mark, t_14_laid⟩ := yt_14
        replace H := unPaper_hid H
        obtain ⟨ab_t_14, ao_t_14, zt_14, At_14, z_t_14, ct_14_0, ct_14_1, ct_14_2, ct_14_3, ct_14_4⟩ := Go.Proofs.Ytbnpdaipgamgkaa.OPaper.at_ M0.out lt_14
        obtain rfl := Option.some.inj (gt_14.out.symm.trans z_t_14)
        subst At_14
        have ltt_14 := cell_lt ct_14_0
        replace ct_14_0 := cell_below HBwr0.out ct_14_0
        replace ct_14_1 := cell_below HBwr0.out ct_14_1
        replace ct_14_2 := cell_below HBwr0.out ct_14_2
        replace ct_14_3 := cell_below HBwr0.out ct_14_3
        replace ct_14_4 := cell_below HBwr0.out ct_14_4
        clear z_t_14
        have b0t_14 : (0 : Int) ≤ (k0 : Int) := by omega
        have b1t_14 : (k0 : Int) < ((a.length : Nat) : Int) := by omega
        have b2t_14 : ((k0 : Int)).toNat = k0 := by omega
        have Hct_14_0 := Lib.hid ct_14_0
        replace ct_14_0 := cell_regrown ct_14_0
        have Hct_14_1 := Lib.hid ct_14_1
        replace ct_14_1 := cell_regrown ct_14_1
        have Hct_14_2 := Lib.hid ct_14_2
        replace ct_14_2 := cell_regrown ct_14_2
        have Hct_14_3 := Lib.hid ct_14_3
        replace ct_14_3 := cell_regrown ct_14_3
        have Hct_14_4 := Lib.hid ct_14_4
        replace ct_14_4 := cell_regrown ct_14_4
        replace H := idx_hid H
        obtain ⟨nt_18, yt_18, et_18, lt_18, gt_18, H⟩ := H
        obtain rfl : k0 = nt_18 := by omega
        clear et_18
        obtain ⟨t_18_id, t_18_thick, t_18_tint, t_18_mark, t_18_laid⟩ := yt_18
        replace H := unPaper_hid H
        obtain ⟨ab_t_18, ao_t_18, zt_18, At_18, z_t_18, ct_18_0, ct_18_1, ct_18_2, ct_18_3, ct_18_4⟩ := Go.Proofs.Ytbnpdaipgamgkaa.OPaper.at_ M1.out lt_18
        obtain rfl := Option.some.inj (gt_18.out.symm.trans z_t_18)
        subst At_18
        have ltt_18 := cell_lt ct_18_0
        replace ct_18_0 := cell_below HBwr0.out ct_18_0
        replace ct_18_1 := cell_below HBwr0.out ct_18_1
        replace ct_18_2 := cell_below HBwr0.out ct_18_2
        replace ct_18_3 := cell_below HBwr0.out ct_18_3
        replace ct_18_4 := cell_below HBwr0.out ct_18_4
        clear z_t_18
        have b0t_18 : (0 : Int) ≤ (k0 : Int) := by omega
        have b1t_18 : (k0 : Int) < ((b.length : Nat) : Int) := by omega
        have b2t_18 : ((k0 : Int)).toNat = k0 := by omega
        have Hct_18_0 := Lib.hid ct_18_0
        replace ct_18_0 := cell_regrown ct_18_0
        have Hct_18_1 := Lib.hid ct_18_1
        replace ct_18_1 := cell_regrown ct_18_1
        have Hct_18_2 := Lib.hid ct_18_2
        replace ct_18_2 := cell_regrown ct_18_2
        have Hct_18_3 := Lib.hid ct_18_3
        replace ct_18_3 := cell_regrown ct_18_3
        have Hct_18_4 := Lib.hid ct_18_4
        replace ct_18_4 := cell_regrown ct_18_4
        replace H := bind_hid H
        obtain ⟨t_20, qt_20, H⟩ := H
        have nt_20 : ∀ d os, Calls Try.prog 19 #[.agg #[.int .i64 t_14_id, .int .i64 t_14_thick, .int .i64 t_14_tint, .string t_14_mark, .bool t_14_laid], .agg #[.int .i64 t_18_id, .int .i64 t_18_thick, .int .i64 t_18_tint, .string t_18_mark, .bool t_18_laid]] (Go.Sort.grow (redrawn wr0 d) os) fun e w'' => e = .returned (.bool t_20) ∧ ∃ p : Regrown, w'' = Go.Sort.grow (redrawn wr0 p.d) p.os := fun d os => Calls.regrown_of (Go.Proofs.Ytbnpdaipgamgkaa.GlEqPaper.C ((Go.Proofs.Ytbnpdaipgamgkaa.PPaper.Paper.mk t_14_id t_14_thick t_14_tint t_14_mark t_14_laid)) ((Go.Proofs.Ytbnpdaipgamgkaa.PPaper.Paper.mk t_18_id t_18_thick t_18_tint t_18_mark t_18_laid))  _    qt_20)
        cases t_20 with
        | false =>
          replace H := let_hid H
          obtain ⟨t_21, ht_21, H⟩ := H
          obtain rfl : t_21 = true := ht_21.symm
          refine wp_region_quiet_below (by kernel_rfl) (by kernel_rfl) ?_
          repeat (go_big_quiet_step (first | (go_at_call 19; exact nt_20 _ _)))
          refine wpQuiet_nil ?_
          intro Y6 hY6
          replace hY6 := below_class hY6
          clear nt_20
          replace ct_14_0 := Hct_14_0.out
          clear Hct_14_0
          replace ct_14_1 := Hct_14_1.out
          clear Hct_14_1
          replace ct_14_2 := Hct_14_2.out
          clear Hct_14_2
          replace ct_14_3 := Hct_14_3.out
          clear Hct_14_3
          replace ct_14_4 := Hct_14_4.out
          clear Hct_14_4
          replace ct_18_0 := Hct_18_0.out
          clear Hct_18_0
          replace ct_18_1 := Hct_18_1.out
          clear Hct_18_1
          replace ct_18_2 := Hct_18_2.out
          clear Hct_18_2
          replace ct_18_3 := Hct_18_3.out
          clear Hct_18_3
          replace ct_18_4 := Hct_18_4.out
          clear Hct_18_4
          have HBY6 := Lib.hid (Below.step HBwr0.out hY6)
          replace ct_14_0 := cell_below hY6 ct_14_0
          replace ct_14_1 := cell_below hY6 ct_14_1
          replace ct_14_2 := cell_below hY6 ct_14_2
          replace ct_14_3 := cell_below hY6 ct_14_3
          replace ct_14_4 := cell_below hY6 ct_14_4
          replace ct_18_0 := cell_below hY6 ct_18_0
          replace ct_18_1 := cell_below hY6 ct_18_1
          replace ct_18_2 := cell_below hY6 ct_18_2
          replace ct_18_3 := cell_below hY6 ct_18_3
          replace ct_18_4 := cell_below hY6 ct_18_4
          clear hY6
          replace H := ite_t H
          obtain rfl := ret_hid H
          go_wp2_with fail
          go_ret
          exact ⟨rfl, HBY6.out⟩
        | true =>
          replace H := let_hid H
          obtain ⟨t_21, ht_21, H⟩ := H
          obtain rfl : t_21 = false := ht_21.symm
          refine wp_region_quiet_below (by kernel_rfl) (by kernel_rfl) ?_
          repeat (go_big_quiet_step (first | (go_at_call 19; exact nt_20 _ _)))
          refine wpQuiet_nil ?_
          intro Y6 hY6
          replace hY6 := below_class hY6
          clear nt_20
          replace ct_14_0 := Hct_14_0.out
          clear Hct_14_0
          replace ct_14_1 := Hct_14_1.out
          clear Hct_14_1
          replace ct_14_2 := Hct_14_2.out
          clear Hct_14_2
          replace ct_14_3 := Hct_14_3.out
          clear Hct_14_3
          replace ct_14_4 := Hct_14_4.out
          clear Hct_14_4
          replace ct_18_0 := Hct_18_0.out
          clear Hct_18_0
          replace ct_18_1 := Hct_18_1.out
          clear Hct_18_1
          replace ct_18_2 := Hct_18_2.out
          clear Hct_18_2
          replace ct_18_3 := Hct_18_3.out
          clear Hct_18_3
          replace ct_18_4 := Hct_18_4.out
          clear Hct_18_4
          have HBY6 := Lib.hid (Below.step HBwr0.out hY6)
          replace ct_14_0 := cell_below hY6 ct_14_0
          replace ct_14_1 := cell_below hY6 ct_14_1
          replace ct_14_2 := cell_below hY6 ct_14_2
          replace ct_14_3 := cell_below hY6 ct_14_3
          replace ct_14_4 := cell_below hY6 ct_14_4
          replace ct_18_0 := cell_below hY6 ct_18_0
          replace ct_18_1 := cell_below hY6 ct_18_1
          replace ct_18_2 := cell_below hY6 ct_18_2
          replace ct_18_3 := cell_below hY6 ct_18_3
          replace ct_18_4 := cell_below hY6 ct_18_4
          clear hY6
          replace H := ite_f H
          replace H := app_hid H
          go_wp2_with fail
          go_roundg m0
          case measure => omega
          case rel => exact ⟨k0 + 1, by omega, by go_num, H, HBY6⟩
  | true =>
    have nht_5 : ¬ (a.length = b.length) := by have := bne_iff_ne.1 ht_5; omega
    replace H := ite_t H
    obtain rfl := ret_hid H
    go_wp2_with fail
    go_ret
    exact ⟨rfl, HB.out⟩
end Go.Proofs.Ytbnpdaipgamgkaa.GlEqPaperS

/- The contracts of the laws' helpers on slices of strings: szStringS, toStringS, eqStringS. Condition: the slice reads as a list of strings. -/
namespace Go.Proofs.Ytbnpdaipgamgkaa.HelpStr
set_option linter.unusedVariables false
open Go.RowKit
open Go.Proofs.Ytbnpdaipgamgkaa.Rowed

/-- how many bytes the strings hold together -/
def nbytes (l : List ByteArray) : Nat := (l.map ByteArray.size).sum
theorem bytes_take (l : List ByteArray) (k : Nat) (x : ByteArray) (h : l[k]? = some x) : nbytes (l.take (k + 1)) = nbytes (l.take k) + x.size := by
  have hk := (List.getElem?_eq_some_iff.1 h).1
  rw [List.take_succ_eq_append_getElem hk, (List.getElem?_eq_some_iff.1 h).2]
  unfold nbytes; rw [List.map_append, List.sum_append]; simp
theorem bytes_take_le (l : List ByteArray) (k : Nat) : nbytes (l.take k) ≤ nbytes l := by
  conv => rhs; rw [← List.take_append_drop k l]
  unfold nbytes; rw [List.map_append, List.sum_append]; omega

/-- szStringS: what is left of 'left' behind the strings and their number, or -1 where nothing is left -/
def SzPost (l : List ByteArray) (left : Int) (w : World) (e : Ending) (w' : World) : Prop :=
  ((0 ≤ left - (l.length : Int) - (nbytes l : Int) ∧ e = .returned (.int .i64 (left - (l.length : Int) - (nbytes l : Int)))) ∨ (left - (l.length : Int) - (nbytes l : Int) < 0 ∧ e = .returned (.int .i64 (-1)))) ∧ w = w'

theorem size_le_bytes (l : List ByteArray) : ∀ x ∈ l, x.size ≤ nbytes l := by
  induction l with
  | nil => intro x hx; simp at hx
  | cons y r ih =>
    intro x hx
    have e : nbytes (y :: r) = y.size + nbytes r := by unfold nbytes; simp
    rcases List.mem_cons.1 hx with rfl | h
    · omega
    · have := ih x h; omega
theorem strs_own {w : World} {base n c g : Nat} {e : TypeId} {l : List ByteArray} (h : w.ownsRow base e 1 (.slice (some ⟨g, 0, none⟩) n c) n (l.map Value.string)) : Strs w (some ⟨g, 0, none⟩) n l := Cells.of_own h

theorem infoS : (Try.prog.info? 9).map (fun i => (i.zero, i.size, i.bytes)) = some (some (.string ByteArray.empty), 1, 16) := by kernel_rfl

/-- toStringS: a new row with the same strings -/
def ToPost (l : List ByteArray) (w : World) (e : Ending) (w' : World) : Prop :=
  ∃ g, e = .returned (.slice (some ⟨g, 0, none⟩) l.length l.length) ∧ w'.ownsRow w.heap.size 9 1 (.slice (some ⟨g, 0, none⟩) l.length l.length) l.length (l.map Value.string) ∧ Below w.heap.size w w'

def RelTo (l : List ByteArray) (ys : List Value) (w : World) (k : Nat) (wr : World) : Prop :=
  wr.ownsRow w.heap.size 9 1 (.slice (some ⟨w.heap.size, 0, none⟩) l.length l.length) l.length (fill (l.map Value.string) ys k) ∧ Below w.heap.size w wr

theorem rel_start {l : List ByteArray} {w w1 : World} {ys : List Value} (h : w1.ownsRow w.heap.size 9 1 (.slice (some ⟨w.heap.size, 0, none⟩) l.length l.length) l.length ys) (hg : w.grownBy w1 none) :
    ∃ zs : List Value, Hid (zs.length = l.length) ∧ RelTo l zs w 0 w1 :=
  ⟨ys, Lib.hid (by have := h.1; omega), by rw [fill_zero]; exact h, (Below.refl _ _).grown hg (Nat.le_refl _) (by simp)⟩

theorem rel_round {l : List ByteArray} {ys : List Value} {w wr : World} {k : Nat} {x : ByteArray} (h : RelTo l ys w k wr) (hy : Hid (ys.length = l.length)) (hx : l[k]? = some x) :
    ∃ y, wr.cell? ⟨w.heap.size, k, none⟩ = some y ∧ wr.frozen? ⟨w.heap.size, k, none⟩ = false ∧ RelTo l ys w (k + 1) (wr.setCell ⟨w.heap.size, k, none⟩ (.string x)) := by
  have hy' : ys.length = l.length := hy
  have hk := (List.getElem?_eq_some_iff.1 hx).1
  have hlen : (fill (l.map Value.string) ys k).length = l.length := by rw [fill_len _ _ _ (by simpa using hy')]; exact hy'
  have hc := h.1.cellAt k (by omega)
  rw [List.getElem?_eq_getElem (by omega)] at hc
  refine ⟨_, hc, h.1.frozenAt k, ?_, h.2.setCell (Nat.le_refl _) _⟩
  have := (h.1.stored k (.string x)).1
  rw [fill_set _ _ _ _ (by omega) (by rw [List.getElem?_map, hx]; rfl)] at this
  exact this

theorem rel_end {l : List ByteArray} {ys : List Value} {w wr : World} (h : RelTo l ys w l.length wr) (hy : Hid (ys.length = l.length)) :
    wr.ownsRow w.heap.size 9 1 (.slice (some ⟨w.heap.size, 0, none⟩) l.length l.length) l.length (l.map Value.string) ∧ Below w.heap.size w wr := by
  have hy' : ys.length = l.length := hy
  have e := fill_all (l.map Value.string) ys (by simpa using hy')
  rw [List.length_map] at e
  have h1 := h.1
  rw [e] at h1
  exact ⟨h1, h.2⟩

set_option maxHeartbeats 800000 in
/-- eqStringS, where both slices hold the same strings -/
theorem eq_same (A B : Option Addr) (n c d : Nat) (l : List ByteArray) (w : World) (h1 : Strs w A n l) (h2 : Strs w B n l) (hn : n ≤ 9223372036854775807) :
    Calls Try.prog 8 #[.slice A n c, .slice B n d] w fun e w' => e = .returned (.bool true) ∧ DrawnTo w w' := by
  have H1 := Lib.hid h1
  have H2 := Lib.hid h2
  clear h1 h2
  go_enter Try.func8, Try.ntmps8
  go_wp2
  go_loopw [5] (fun i wr => ∃ k : Nat, k ≤ n ∧ i = .int .i64 k ∧ DrawnTo w wr) (fun i _ => n - (intOf i).toNat)
  case atStart => exact ⟨0, Nat.zero_le _, rfl, 0, rfl⟩
  case round =>
    obtain ⟨k, hk, rfl, m, rfl⟩ := hrel
    by_cases hlt : k < n
    · obtain ⟨ad, x, rfl, hx, hc1⟩ := H1.out.at_ hlt
      obtain ⟨bd, y, rfl, hy, hc2⟩ := H2.out.at_ hlt
      obtain rfl : x = y := by rw [hx] at hy; exact Option.some.inj hy
      clear hx hy
      have hb1 : 0 ≤ (k : Int) := by omega
      have hb2 : (k : Int) < n := by omega
      go_wp2_with fail
      go_quiet (fail)
      go_wp2_with fail
      go_roundw
      case rel => exact ⟨k + 1, by omega, by go_num, _, rfl⟩
      case measure => simp [intOf]; omega
    · go_wp2
      go_ret
      exact ⟨rfl, m, rfl⟩
end Go.Proofs.Ytbnpdaipgamgkaa.HelpStr

/- The contracts of the laws' helpers that mark a slice of strings and look whether the marks are held: markText, markStringS, heldStringS. Conditions: the marks begin at 1 or more; the slice is one that the caller has made. -/
namespace Go.Proofs.Ytbnpdaipgamgkaa.MarkStr
set_option linter.unusedVariables false
open Go.RowKit
open Go.Proofs.Ytbnpdaipgamgkaa.Rowed Go.Proofs.Ytbnpdaipgamgkaa.HelpStr

/-- the mark of number k -/
def mt (k : Nat) : ByteArray := ⟨(109 :: Lib.decDigits k).toArray⟩

theorem ext_of {a b : ByteArray} (h : a.data.toList = b.data.toList) : a = b := by
  obtain ⟨⟨x⟩⟩ := a
  obtain ⟨⟨y⟩⟩ := b
  simp at h
  rw [h]
theorem add_str {P : Program} (a b c : ByteArray) (h : a.data.toList ++ b.data.toList = c.data.toList) (hl : c.data.toList.length ≤ 9223372036854775807) (W : World) :
    (Op.stringOp .add a b).run P W = .ok (.string c) W := by
  have e1 : a.data.toList.length = a.size := by simp
  have e2 : b.data.toList.length = b.size := by simp
  rw [← h, List.length_append, e1, e2] at hl
  rw [run_string_add_sum]
  · congr 2
    apply ext_of
    rw [← h]
    simp
  · exact hl
theorem dec_small (j : Nat) (h : j < 10) : Lib.decDigits j = [UInt8.ofNat (48 + j % 10)] := by
  rw [Lib.decDigits_one h, Nat.mod_eq_of_lt h]
theorem dec_step (j : Nat) (h : ¬ j < 10) : Lib.decDigits j = Lib.decDigits (j / 10) ++ [UInt8.ofNat (48 + j % 10)] := by
  rw [Lib.decDigits, dif_neg h]

/-- what is done when j is what is left: o -/
def Rel (k j : Nat) (o : List UInt8) : Prop := (if j = 0 then [] else Lib.decDigits j) ++ o = Lib.decDigits k
theorem Rel.next {k j : Nat} {o : List UInt8} (h : Rel k j o) (hj : 0 < j) : Rel k (j / 10) (UInt8.ofNat (48 + j % 10) :: o) := by
  unfold Rel at h ⊢
  rw [if_neg (by omega)] at h
  by_cases h10 : j < 10
  · rw [if_pos (by omega)]
    rw [dec_small j h10] at h
    exact h
  · rw [if_neg (by omega)]
    rw [dec_step j h10, List.append_assoc] at h
    exact h
theorem Rel.len {k j : Nat} {o : List UInt8} (h : Rel k j o) (hk : k ≤ 1000000000) : o.length ≤ 20 := by
  have h1 := congrArg List.length h
  rw [List.length_append, Lib.decDigits_length] at h1
  have := Lib.nDigits_le20 k (by omega)
  omega
theorem byte_num (j : Nat) : ((UInt8.ofNat (48 + j % 10)).toNat : Int) = 48 + (j : Int) % 10 := by
  rw [UInt8.toNat_ofNat']; omega

theorem conv_one {P : Program} (W : World) (src dst e : TypeId) (c : UInt8) (hs : P.underlying src = some (.slice e)) (he : P.underlying e = some (.int .u8)) (hd : P.underlying dst = some .string) :
    (convert src dst (.slice (some ⟨W.heap.size, 0, none⟩) 1 1)).run P (W.alloc (.cells #[.int .u8 (c.toNat : Int)] e)) = .ok (.string ⟨#[c]⟩) (W.alloc (.cells #[.int .u8 (c.toNat : Int)] e)) := by
  have := run_convert_bytes_back (P := P) (W.alloc (.cells #[.int .u8 (c.toNat : Int)] e)) src dst e ⟨W.heap.size, 0, none⟩ 1 [c] hs he hd (fun j hj => by
    have : j = 0 := by simpa using hj
    subst this
    rw [show (⟨W.heap.size, 0, none⟩ : Addr).add 0 = ⟨W.heap.size, 0, none⟩ from rfl, World.cell?_alloc_new]
    rfl)
  exact this

set_option maxHeartbeats 1000000 in
theorem markText_any (k : Nat) (w : World) (h1 : 1 ≤ k) (h2 : k ≤ 1000000000) :
    Calls Try.prog 20 #[.int .i64 (k : Int)] w fun e w' => e = .returned (.string (mt k)) ∧ Below w.heap.size w w' := by
  have hk0 : decide (k = 0) = false := by simp; omega
  go_enter Try.func20, Try.ntmps20
  go_wp2
  go_loopw [0, 3] (fun t o wr => ∃ (j : Nat) (q : ByteArray), j ≤ k ∧ t = .int .i64 j ∧ o = .string q ∧ Hid (Rel k j q.data.toList) ∧ Hid (Below w.heap.size w wr)) (fun t _ _ => (intOf t).toNat)
  case atStart => exact ⟨k, ⟨#[]⟩, Nat.le_refl _, rfl, rfl, Lib.hid (by unfold Rel; rw [if_neg (by omega)]; simp), Lib.hid (Below.refl _ _)⟩
  case round =>
    obtain ⟨j, q, hjk, rfl, rfl, HR, HB⟩ := hrel
    by_cases hj : 0 < j
    · obtain ⟨ch, hch, HN⟩ : ∃ ch : UInt8, (ch.toNat : Int) = 48 + (j : Int) % 10 ∧ Hid (Rel k (j / 10) (ch :: q.data.toList)) := ⟨_, byte_num j, HR.out.next hj⟩
      have hadd := add_str (P := Try.prog) ⟨#[ch]⟩ q ⟨(ch :: q.data.toList).toArray⟩ rfl (by have := HN.out.len h2; show (ch :: q.data.toList).length ≤ _; omega)
      have hcv := fun W => conv_one (P := Try.prog) W 50 9 5 ch Try.underlying50 Try.underlying5 Try.underlying9
      rw [hch] at hcv
      have HB3 := Lib.hid (HB.out.alloc HB.out.size (.cells #[.int .u8 (48 + (j : Int) % 10)] 5))
      clear hch
      go_wp2
      go_roundw
      case rel => exact ⟨j / 10, _, by omega, by go_num, rfl, HN, HB3⟩
      case measure => simp [intOf]; omega
    · obtain rfl : j = 0 := by omega
      have hfin : q.data.toList = Lib.decDigits k := HR.out
      have HF := Lib.hid hfin
      have hadd := add_str (P := Try.prog) ⟨#[109]⟩ q (mt k) (by unfold mt; rw [hfin]; rfl) (by have := HR.out.len h2; rw [hfin] at this; show (109 :: Lib.decDigits k).length ≤ _; rw [List.length_cons]; omega)
      clear hfin
      go_wp2
      go_ret
      exact ⟨rfl, HB.out⟩

/-- the marks k, k + 1, .. -/
def marks (k n : Nat) : List Value := (List.range n).map fun i => Value.string (mt (k + i))
theorem marks_len (k n : Nat) : (marks k n).length = n := by simp [marks]
theorem marks_at (k n i : Nat) (h : i < n) : (marks k n)[i]? = some (.string (mt (k + i))) := by
  unfold marks; rw [List.getElem?_map, List.getElem?_range h]; rfl
theorem grown_of {W W' : World} (h : Below W.heap.size W W') : W.grownBy W' none := ⟨h.os, h.tape, h.output, h.size, fun k hk _ => h.block k hk⟩
theorem grown_weak {W W' : World} (h : W.grownBy W' none) (g : Nat) : W.grownBy W' (some g) := ⟨h.os, h.tape, h.output, h.size, fun k hk _ => h.block k hk (by simp)⟩
theorem grown_tr {a b c : World} {r : Option Nat} (h : a.grownBy b r) (k : b.grownBy c r) : a.grownBy c r :=
  ⟨k.os.trans h.os, k.tape.trans h.tape, k.output.trans h.output, Nat.le_trans h.size k.size, fun i hi hr => (k.block i (Nat.lt_of_lt_of_le hi h.size) hr).trans (h.block i hi hr)⟩

def MarkRel (w : World) (base g n c k : Nat) (xs : List Value) (i : Nat) (wr : World) : Prop :=
  wr.ownsRow base 9 1 (.slice (some ⟨g, 0, none⟩) n c) n (fill (marks k n) xs i) ∧ w.grownBy wr (some g)

theorem mark_next {w wr w1 : World} {base g n c k i : Nat} {xs : List Value} (h : MarkRel w base g n c k xs i wr) (hb : Below wr.heap.size wr w1) (hxs : xs.length = n) (hi : i < n) :
    ∃ y, w1.cell? ⟨g, i, none⟩ = some y ∧ w1.frozen? ⟨g, i, none⟩ = false ∧ MarkRel w base g n c k xs (i + 1) (w1.setCell ⟨g, i, none⟩ (.string (mt (k + i)))) := by
  have hk := grown_of hb
  have h1 : w1.ownsRow base 9 1 (.slice (some ⟨g, 0, none⟩) n c) n (fill (marks k n) xs i) := h.1.kept hk (.inr (by simp [Value.ownBlock]))
  have hlen : (fill (marks k n) xs i).length = n := by rw [fill_len _ _ _ (by rw [marks_len, hxs])]; exact hxs
  have hc := h1.cellAt i (by omega)
  rw [List.getElem?_eq_getElem (by omega)] at hc
  refine ⟨_, hc, h1.frozenAt i, ?_, ?_⟩
  · have := (h1.stored i (.string (mt (k + i)))).1
    rw [fill_set _ _ _ _ (by omega) (marks_at k n i hi)] at this
    exact this
  · exact grown_tr h.2 (grown_tr (grown_weak hk g) (h1.stored i (.string (mt (k + i)))).2)

def MarkPost (w : World) (base g n c k : Nat) (e : Ending) (w' : World) : Prop :=
  e = .returned (.int .i64 ((k + n : Nat) : Int)) ∧ w'.ownsRow base 9 1 (.slice (some ⟨g, 0, none⟩) n c) n (marks k n) ∧ w.grownBy w' (some g)

set_option maxHeartbeats 1000000 in
theorem mark_any (w : World) (base g n c k : Nat) (xs : List Value) (h : w.ownsRow base 9 1 (.slice (some ⟨g, 0, none⟩) n c) n xs) (hn : n ≤ 1048576) (hk : 1 ≤ k) (hk2 : k ≤ 1048576) :
    Calls Try.prog 11 #[.slice (some ⟨g, 0, none⟩) n c, .int .i64 (k : Int)] w (MarkPost w base g n c k) := by
  have hxs : Hid (xs.length = n) := Lib.hid (by have := h.1; omega)
  have HR0 : Hid (MarkRel w base g n c k xs 0 w) := Lib.hid ⟨by rw [fill_zero]; exact h, ⟨rfl, rfl, rfl, Nat.le_refl _, fun _ _ _ => rfl⟩⟩
  clear h
  go_enter Try.func11, Try.ntmps11
  go_wp2_with fail
  go_loopw [1, 5] (fun t i wr => ∃ j : Nat, j ≤ n ∧ i = .int .i64 j ∧ t = .int .i64 ((k + j : Nat) : Int) ∧ Hid (MarkRel w base g n c k xs j wr)) (fun _ i _ => n - (intOf i).toNat)
  case atStart => exact ⟨0, Nat.zero_le _, rfl, rfl, HR0⟩
  case round =>
    obtain ⟨j, hj, rfl, rfl, HR⟩ := hrel
    by_cases hlt : j < n
    · go_wp2_with (go_at_call 20; refine (markText_any (k + j) wr (by omega) (by omega)).mono ?_; rintro e w1 ⟨rfl, hb⟩; obtain ⟨y, hc, hf, hR1⟩ := mark_next HR.out hb hxs.out hlt; have HR1 := Lib.hid hR1; clear hb hR1)
      go_roundw
      case rel => exact ⟨j + 1, by omega, by go_num, by go_num, HR1⟩
      case measure => simp [intOf]; omega
    · obtain rfl : j = n := by omega
      have HF := Lib.hid HR.out.1
      go_wp2_with fail
      go_ret
      exact ⟨rfl, by rw [← fill_all (marks k j) xs (by rw [marks_len]; exact hxs.out), marks_len]; exact HF.out, HR.out.2⟩

theorem keep_both {w X w1 : World} {a : Addr} {v : Value} (hb : Below X.heap.size X w1) (h : X.cell? a = some v ∧ Below w.heap.size w X) : w1.cell? a = some v ∧ Below w.heap.size w w1 :=
  ⟨cell_below hb h.1, Below.step h.2 hb⟩
def HeldPost (w : World) (k n : Nat) (e : Ending) (w' : World) : Prop := e = .returned (.int .i64 ((k + n : Nat) : Int)) ∧ Below w.heap.size w w'

set_option maxHeartbeats 1000000 in
theorem held_any (w : World) (base g n c k : Nat) (h : w.ownsRow base 9 1 (.slice (some ⟨g, 0, none⟩) n c) n (marks k n)) (hn : n ≤ 1048576) (hk : 1 ≤ k) (hk2 : k ≤ 1048576) :
    Calls Try.prog 12 #[.slice (some ⟨g, 0, none⟩) n c, .int .i64 (k : Int)] w (HeldPost w k n) := by
  have HH : Hid (∀ j, j < n → w.cell? ⟨g, j, none⟩ = some (.string (mt (k + j)))) := Lib.hid fun j hj => by rw [h.cellAt j (by omega), marks_at k n j hj]
  clear h
  go_enter Try.func12, Try.ntmps12
  go_wp2_with fail
  go_loopw [1, 5] (fun t i wr => ∃ j : Nat, j ≤ n ∧ i = .int .i64 j ∧ t = .int .i64 ((k + j : Nat) : Int) ∧ Hid (Below w.heap.size w wr)) (fun _ i _ => n - (intOf i).toNat)
  case atStart => exact ⟨0, Nat.zero_le _, rfl, rfl, Lib.hid (Below.refl _ _)⟩
  case round =>
    obtain ⟨j, hj, rfl, rfl, HB⟩ := hrel
    by_cases hlt : j < n
    · have hcell : wr.cell? ⟨g, j, none⟩ = some (.string (mt (k + j))) := cell_below HB.out (HH.out j hlt)
      have hbel : Below w.heap.size w wr := HB.out
      go_wp2_with fail
      go_region_held3 (fun w' => w'.cell? ⟨g, j, none⟩ = some (.string (mt (k + j))) ∧ Below w.heap.size w w') (first | exact ⟨hcell, hbel.drew⟩ | exact keep_both hb (by assumption) | go_keep)
        (first | (go_at_call 20; refine (markText_any (k + j) _ (by omega) (by omega)).mono ?_; rintro e w1 ⟨rfl, hb⟩))
      rename_i hX
      have HX := Lib.hid hX.2
      clear hX
      go_wp2_with fail
      go_roundw
      case rel => exact ⟨j + 1, by omega, by go_num, by go_num, HX⟩
      case measure => simp [intOf]; omega
    · obtain rfl : j = n := by omega
      go_wp2_with fail
      go_ret
      exact ⟨rfl, HB.out⟩
end Go.Proofs.Ytbnpdaipgamgkaa.MarkStr

/- markText as a plain function, from 1 to a billion; the contract of the program's. No condition. -/
namespace Go.Proofs.Ytbnpdaipgamgkaa.GlMarkText
set_option linter.unusedVariables false
open Go.RowKit
open Go.Proofs.Ytbnpdaipgamgkaa.Turn
def P (k : Int) : Option ByteArray := if 1 ≤ k ∧ k ≤ 1000000000 then some (Go.Proofs.Ytbnpdaipgamgkaa.MarkStr.mt k.toNat) else none
theorem C (k : Int) (w : World) {r : ByteArray} (H : Hid (P k = some r)) : Calls Try.prog 20 #[.int .i64 k] w (Gives (.string r) w) := by
  have h : P k = some r := H
  unfold P at h
  by_cases hk : 1 ≤ k ∧ k ≤ 1000000000
  · rw [if_pos hk] at h
    obtain rfl := Option.some.inj h
    obtain ⟨n, rfl⟩ := Int.eq_ofNat_of_zero_le (show 0 ≤ k by omega)
    exact Go.Proofs.Ytbnpdaipgamgkaa.MarkStr.markText_any n w (by omega) (by omega)
  · rw [if_neg hk] at h; simp at h
end Go.Proofs.Ytbnpdaipgamgkaa.GlMarkText

/- loop.example/g01062/laws.markPaperS as a plain function, and the contract of the program's: where the plain one has an answer, the program has it. Conditions: slices read as lists. -/
namespace Go.Proofs.Ytbnpdaipgamgkaa.GlMarkPaperS
set_option linter.unusedVariables false
set_option linter.unusedSimpArgs false
open Go.RowKit
open Go.Proofs.Ytbnpdaipgamgkaa.Rowed Go.Proofs.Ytbnpdaipgamgkaa.Turn Go.Proofs.Ytbnpdaipgamgkaa.Aid Go.Proofs.Ytbnpdaipgamgkaa.GoP Go.Proofs.Ytbnpdaipgamgkaa.GoM

def l0  (k0 : Nat) (s : (List Go.Proofs.Ytbnpdaipgamgkaa.PPaper.Paper) × Int) (nx0 bk0 : (List Go.Proofs.Ytbnpdaipgamgkaa.PPaper.Paper) × Int → Option (Int × (List Go.Proofs.Ytbnpdaipgamgkaa.PPaper.Paper))) : Option (Int × (List Go.Proofs.Ytbnpdaipgamgkaa.PPaper.Paper)) :=
  unp2 s fun a_0l0 k_1l0 =>
  Option.bind (idx a_0l0 (k0 : Int)) fun (yt_9 : Go.Proofs.Ytbnpdaipgamgkaa.PPaper.Paper) =>
  unPaper yt_9 fun (t_9_id : Int) (t_9_thick : Int) (t_9_tint : Int) (t_9_mark : ByteArray) (t_9_laid : Bool) =>
  letK (a_0l0.set k0 (Go.Proofs.Ytbnpdaipgamgkaa.PPaper.Paper.mk k_1l0 t_9_thick t_9_tint t_9_mark t_9_laid)) fun (l11_11 : (List Go.Proofs.Ytbnpdaipgamgkaa.PPaper.Paper)) =>
  letK (IntKind.i64.wrap (k_1l0 + 1)) fun (t_13 : Int) =>
  Option.bind (idx l11_11 (k0 : Int)) fun (yt_18 : Go.Proofs.Ytbnpdaipgamgkaa.PPaper.Paper) =>
  unPaper yt_18 fun (t_18_id : Int) (t_18_thick : Int) (t_18_tint : Int) (t_18_mark : ByteArray) (t_18_laid : Bool) =>
  letK (l11_11.set k0 (Go.Proofs.Ytbnpdaipgamgkaa.PPaper.Paper.mk t_18_id t_13 t_18_tint t_18_mark t_18_laid)) fun (l20_20 : (List Go.Proofs.Ytbnpdaipgamgkaa.PPaper.Paper)) =>
  letK (IntKind.i64.wrap (t_13 + 1)) fun (t_22 : Int) =>
  Option.bind (idx l20_20 (k0 : Int)) fun (yt_27 : Go.Proofs.Ytbnpdaipgamgkaa.PPaper.Paper) =>
  unPaper yt_27 fun (t_27_id : Int) (t_27_thick : Int) (t_27_tint : Int) (t_27_mark : ByteArray) (t_27_laid : Bool) =>
  letK (l20_20.set k0 (Go.Proofs.Ytbnpdaipgamgkaa.PPaper.Paper.mk t_27_id t_27_thick t_22 t_27_mark t_27_laid)) fun (l29_29 : (List Go.Proofs.Ytbnpdaipgamgkaa.PPaper.Paper)) =>
  letK (IntKind.i64.wrap (t_22 + 1)) fun (t_31 : Int) =>
  Option.bind (Go.Proofs.Ytbnpdaipgamgkaa.GlMarkText.P t_31) fun (t_36 : ByteArray) =>
  Option.bind (idx l29_29 (k0 : Int)) fun (yt_37 : Go.Proofs.Ytbnpdaipgamgkaa.PPaper.Paper) =>
  unPaper yt_37 fun (t_37_id : Int) (t_37_thick : Int) (t_37_tint : Int) (t_37_mark : ByteArray) (t_37_laid : Bool) =>
  letK (l29_29.set k0 (Go.Proofs.Ytbnpdaipgamgkaa.PPaper.Paper.mk t_37_id t_37_thick t_37_tint t_36 t_37_laid)) fun (l39_39 : (List Go.Proofs.Ytbnpdaipgamgkaa.PPaper.Paper)) =>
  letK (IntKind.i64.wrap (t_31 + 1)) fun (t_41 : Int) =>
  letK (Int.tmod t_41 3) fun (t_46 : Int) =>
  letK (t_46 == 0) fun (t_47 : Bool) =>
  Option.bind (idx l39_39 (k0 : Int)) fun (yt_48 : Go.Proofs.Ytbnpdaipgamgkaa.PPaper.Paper) =>
  unPaper yt_48 fun (t_48_id : Int) (t_48_thick : Int) (t_48_tint : Int) (t_48_mark : ByteArray) (t_48_laid : Bool) =>
  letK (l39_39.set k0 (Go.Proofs.Ytbnpdaipgamgkaa.PPaper.Paper.mk t_48_id t_48_thick t_48_tint t_48_mark t_47)) fun (l50_50 : (List Go.Proofs.Ytbnpdaipgamgkaa.PPaper.Paper)) =>
  letK (IntKind.i64.wrap (t_41 + 1)) fun (t_52 : Int) =>
  appK nx0 (l50_50, t_52)

def e0  (s : (List Go.Proofs.Ytbnpdaipgamgkaa.PPaper.Paper) × Int) : Option (Int × (List Go.Proofs.Ytbnpdaipgamgkaa.PPaper.Paper)) :=
  unp2 s fun a_0l0 k_1l0 =>
  some (k_1l0, a_0l0)

def P (a : (List Go.Proofs.Ytbnpdaipgamgkaa.PPaper.Paper)) (k_1 : Int) : Option (Int × (List Go.Proofs.Ytbnpdaipgamgkaa.PPaper.Paper)) :=
  cntK (l0 ) (a.length) 0 (a, k_1) (e0 )

set_option maxRecDepth 100000 in
set_option maxHeartbeats 2000000 in
theorem C (a : (List Go.Proofs.Ytbnpdaipgamgkaa.PPaper.Paper)) (k_1 : Int) (A0 : Option Addr) (c0 : Nat)  (b0 : Nat) (w : World) (M0 : Hid (w.ownsRow b0 38 5 (.slice A0 a.length c0) a.length (Go.Proofs.Ytbnpdaipgamgkaa.PPaper.flat a))) (N0 : Hid (a.length ≤ 9223372036854775807))  {r : Int} {l_ : (List Go.Proofs.Ytbnpdaipgamgkaa.PPaper.Paper)} (H : Hid (P a k_1 = some (r, l_))) :
    Calls Try.prog 10 #[.slice A0 a.length c0, .int .i64 k_1] w (fun e w' => e = .returned (.int .i64 r) ∧ w'.ownsRow b0 38 5 (.slice A0 a.length c0) a.length (Go.Proofs.Ytbnpdaipgamgkaa.PPaper.flat l_) ∧ l_.length = a.length ∧ w.grownBy w' (Value.slice A0 a.length c0).ownBlock) := by
  have HB := Lib.hid (Aid.grown_refl w (Value.slice A0 a.length c0).ownBlock)
  unfold P at H
  have N0o := N0.out
  go_enter Try.func10, Try.ntmps10
  go_wp2_with fail
  have hb_0 : a.length ≤ 9223372036854775807 := own_max M0.out
  go_wp2_with fail
  go_loopg [5, 1] (a.length) (fun m_ v5_ v1_ wr => ∃ (k0 : Nat) (a_0l0 : (List Go.Proofs.Ytbnpdaipgamgkaa.PPaper.Paper)) (k_1l0 : Int), k0 + m_ = a.length ∧ v5_ = .int .i64 (k0 : Int) ∧ v1_ = .int .i64 k_1l0 ∧ Hid (cntK (l0 ) m_ k0 (a_0l0, k_1l0) (e0 ) = some (r, l_)) ∧ Hid (w.grownBy wr (Value.slice A0 a.length c0).ownBlock) ∧ Hid (wr.ownsRow b0 38 5 (.slice A0 a.length c0) a.length (Go.Proofs.Ytbnpdaipgamgkaa.PPaper.flat a_0l0)) ∧ Hid (a_0l0.length = a.length))
  case atStart => exact ⟨0, _, _, by omega, rfl, rfl, H, HB, M0, Lib.hid (rfl)⟩
  case round =>
    obtain ⟨k0, a_0l0, k_1l0, hkm0, rfl, rfl, H, HBwr0, Oa_0l0, hna_0l0⟩ := hrel
    rename World => wr0
    cases gk with
    | zero =>
      obtain rfl : k0 = a.length := by omega
      have hc0 : decide (((a.length : Nat) : Int) < ((a.length : Nat) : Int)) = false := by simp
      replace H := cnt_zero H
      unfold e0 at H
      replace H := unp2_hid H
      cases ret_hid H
      go_wp2_with fail
      go_ret
      exact ⟨rfl, Oa_0l0.out, hna_0l0.out, HBwr0.out⟩
    | succ m0 =>
      have hlt0 : k0 < a.length := by omega
      have hc0 : decide ((k0 : Int) < ((a.length : Nat) : Int)) = true := by simp; omega
      replace H := cnt_succ H
      unfold l0 at H
      replace H := unp2_hid H
      replace H := idx_hid H
      obtain ⟨nt_9, yt_9, et_9, lt_9, gt_9, H⟩ := H
      obtain rfl : k0 = nt_9 := by omega
      clear et_9
      obtain ⟨t_9_id, t_9_thick, t_9_tint, t_9_mark, t_9_laid⟩ := yt_9
      replace H := unPaper_hid H
      have hqt_9 := hna_0l0.out
      obtain ⟨qt_9, Qt_9⟩ := own_some Oa_0l0.out (by omega)
      subst Qt_9
      obtain ⟨ab_t_9, ao_t_9, zt_9, At_9, z_t_9, ct_9_0, ct_9_1, ct_9_2, ct_9_3, ct_9_4⟩ := Go.Proofs.Ytbnpdaipgamgkaa.OPaper.at_ (own_cells Oa_0l0.out) (k := k0) (by omega)
      obtain rfl := Option.some.inj (gt_9.out.symm.trans z_t_9)
      simp only [Option.some.injEq, Addr.mk.injEq] at At_9
      obtain ⟨rfl, rfl, _⟩ := At_9
      clear z_t_9
      simp only [Nat.zero_add] at ct_9_0 ct_9_1 ct_9_2 ct_9_3 ct_9_4
      have b0t_9 : (0 : Int) ≤ (k0 : Int) := by omega
      have b1t_9 : (k0 : Int) < ((a.length : Nat) : Int) := by omega
      have b2t_9 : ((k0 : Int)).toNat = k0 := by omega
      clear hqt_9
      replace H := let_hid H
      obtain ⟨l11_11, hl11_11, H⟩ := H
      try simp only [Int.toNat_natCast] at hl11_11
      obtain ⟨wl11_11, hwl11_11⟩ : ∃ x, (wr0).setCell ⟨qt_9, k0 * 5, none⟩ (.int .i64 k_1l0) = x := ⟨_, rfl⟩
      have z0l11_11 := Oa_0l0.out.frozenAt (k0 * 5)
      have Sl11_11 := Lib.hid (own_stores [(k0 * 5, .int .i64 k_1l0)] Oa_0l0.out)
      have nl11_11 : Hid (l11_11.length = a.length) := Lib.hid (by rw [← hl11_11, List.length_set]; exact hna_0l0.out)
      have Pl11_11 : Hid (wl11_11.ownsRow b0 38 5 (.slice (some ⟨qt_9, 0, none⟩) a.length c0) a.length (Go.Proofs.Ytbnpdaipgamgkaa.PPaper.flat l11_11)) := Lib.hid (by have es_ := set_self gt_9.out; have e0_ := flat_set Go.Proofs.Ytbnpdaipgamgkaa.PPaper.Paper.cells 5 (fun _ => rfl) a_0l0 (k0) 0 (Go.Proofs.Ytbnpdaipgamgkaa.PPaper.Paper.mk t_9_id t_9_thick t_9_tint t_9_mark t_9_laid) (Go.Proofs.Ytbnpdaipgamgkaa.PPaper.Paper.mk k_1l0 t_9_thick t_9_tint t_9_mark t_9_laid) (.int .i64 k_1l0) lt_9 (by decide) rfl; rw [es_] at e0_; have e_ : ([(k0 * 5, .int .i64 k_1l0)] : List (Nat × Value)).foldl (fun xs p => xs.set p.1 p.2) (Go.Proofs.Ytbnpdaipgamgkaa.PPaper.flat a_0l0) = (Go.Proofs.Ytbnpdaipgamgkaa.PPaper.flat l11_11) := (by rw [← hl11_11]; show _ = List.flatMap Go.Proofs.Ytbnpdaipgamgkaa.PPaper.Paper.cells _; first | (rw [← e0_]; first | done | rfl)); rw [← hwl11_11, ← e_]; exact Sl11_11.out.1)
      have Gl11_11 : Hid (wr0.grownBy wl11_11 (Value.slice (some ⟨qt_9, 0, none⟩) a.length c0).ownBlock) := Lib.hid (by rw [← hwl11_11]; exact Sl11_11.out.2)
      have HBwl11_11 := Lib.hid (Aid.grown_tr HBwr0.out Gl11_11.out)
      have hhl11_11 := Lib.hid hl11_11
      clear hl11_11 Sl11_11
      clear Oa_0l0 Gl11_11
      replace H := let_hid H
      obtain ⟨t_13, ht_13, H⟩ := H
      replace H := idx_hid H
      obtain ⟨nt_18, yt_18, et_18, lt_18, gt_18, H⟩ := H
      obtain rfl : k0 = nt_18 := by omega
      clear et_18
      obtain ⟨t_18_id, t_18_thick, t_18_tint, t_18_mark, t_18_laid⟩ := yt_18
      replace H := unPaper_hid H
      have hqt_18 := nl11_11.out
      obtain ⟨ab_t_18, ao_t_18, zt_18, At_18, z_t_18, ct_18_0, ct_18_1, ct_18_2, ct_18_3, ct_18_4⟩ := Go.Proofs.Ytbnpdaipgamgkaa.OPaper.at_ (own_cells Pl11_11.out) (k := k0) (by omega)
      obtain rfl := Option.some.inj (gt_18.out.symm.trans z_t_18)
      simp only [Option.some.injEq, Addr.mk.injEq] at At_18
      obtain ⟨rfl, rfl, _⟩ := At_18
      clear z_t_18
      simp only [Nat.zero_add] at ct_18_0 ct_18_1 ct_18_2 ct_18_3 ct_18_4
      have b0t_18 : (0 : Int) ≤ (k0 : Int) := by omega
      have b1t_18 : (k0 : Int) < ((a.length : Nat) : Int) := by omega
      have b2t_18 : ((k0 : Int)).toNat = k0 := by omega
      clear hqt_18
      replace H := let_hid H
      obtain ⟨l20_20, hl20_20, H⟩ := H
      try simp only [Int.toNat_natCast] at hl20_20
      obtain ⟨wl20_20, hwl20_20⟩ : ∃ x, (wl11_11).setCell ⟨qt_9, k0 * 5 + 1, none⟩ (.int .i64 t_13) = x := ⟨_, rfl⟩
      have z0l20_20 := Pl11_11.out.frozenAt (k0 * 5 + 1)
      have Sl20_20 := Lib.hid (own_stores [(k0 * 5 + 1, .int .i64 t_13)] Pl11_11.out)
      have nl20_20 : Hid (l20_20.length = a.length) := Lib.hid (by rw [← hl20_20, List.length_set]; exact nl11_11.out)
      have Pl20_20 : Hid (wl20_20.ownsRow b0 38 5 (.slice (some ⟨qt_9, 0, none⟩) a.length c0) a.length (Go.Proofs.Ytbnpdaipgamgkaa.PPaper.flat l20_20)) := Lib.hid (by have es_ := set_self gt_18.out; have e0_ := flat_set Go.Proofs.Ytbnpdaipgamgkaa.PPaper.Paper.cells 5 (fun _ => rfl) l11_11 (k0) 1 (Go.Proofs.Ytbnpdaipgamgkaa.PPaper.Paper.mk t_18_id t_18_thick t_18_tint t_18_mark t_18_laid) (Go.Proofs.Ytbnpdaipgamgkaa.PPaper.Paper.mk t_18_id t_13 t_18_tint t_18_mark t_18_laid) (.int .i64 t_13) lt_18 (by decide) rfl; rw [es_] at e0_; have e_ : ([(k0 * 5 + 1, .int .i64 t_13)] : List (Nat × Value)).foldl (fun xs p => xs.set p.1 p.2) (Go.Proofs.Ytbnpdaipgamgkaa.PPaper.flat l11_11) = (Go.Proofs.Ytbnpdaipgamgkaa.PPaper.flat l20_20) := (by rw [← hl20_20]; show _ = List.flatMap Go.Proofs.Ytbnpdaipgamgkaa.PPaper.Paper.cells _; first | (rw [← e0_]; first | done | rfl)); rw [← hwl20_20, ← e_]; exact Sl20_20.out.1)
      have Gl20_20 : Hid (wl11_11.grownBy wl20_20 (Value.slice (some ⟨qt_9, 0, none⟩) a.length c0).ownBlock) := Lib.hid (by rw [← hwl20_20]; exact Sl20_20.out.2)
      have HBwl20_20 := Lib.hid (Aid.grown_tr HBwl11_11.out Gl20_20.out)
      have hhl20_20 := Lib.hid hl20_20
      clear hl20_20 Sl20_20
      clear Pl11_11 Gl20_20
      replace H := let_hid H
      obtain ⟨t_22, ht_22, H⟩ := H
      replace H := idx_hid H
      obtain ⟨nt_27, yt_27, et_27, lt_27, gt_27, H⟩ := H
      obtain rfl : k0 = nt_27 := by omega
      clear et_27
      obtain ⟨t_27_id, t_27_thick, t_27_tint, t_27_mark, t_27_laid⟩ := yt_27
      replace H := unPaper_hid H
      have hqt_27 := nl20_20.out
      obtain ⟨ab_t_27, ao_t_27, zt_27, At_27, z_t_27, ct_27_0, ct_27_1, ct_27_2, ct_27_3, ct_27_4⟩ := Go.Proofs.Ytbnpdaipgamgkaa.OPaper.at_ (own_cells Pl20_20.out) (k := k0) (by omega)
      obtain rfl := Option.some.inj (gt_27.out.symm.trans z_t_27)
      simp only [Option.some.injEq, Addr.mk.injEq] at At_27
      obtain ⟨rfl, rfl, _⟩ := At_27
      clear z_t_27
      simp only [Nat.zero_add] at ct_27_0 ct_27_1 ct_27_2 ct_27_3 ct_27_4
      have b0t_27 : (0 : Int) ≤ (k0 : Int) := by omega
      have b1t_27 : (k0 : Int) < ((a.length : Nat) : Int) := by omega
      have b2t_27 : ((k0 : Int)).toNat = k0 := by omega
      clear hqt_27
      replace H := let_hid H
      obtain ⟨l29_29, hl29_29, H⟩ := H
      try simp only [Int.toNat_natCast] at hl29_29
      obtain ⟨wl29_29, hwl29_29⟩ : ∃ x, (wl20_20).setCell ⟨qt_9, k0 * 5 + 2, none⟩ (.int .i64 t_22) = x := ⟨_, rfl⟩
      have z0l29_29 := Pl20_20.out.frozenAt (k0 * 5 + 2)
      have Sl29_29 := Lib.hid (own_stores [(k0 * 5 + 2, .int .i64 t_22)] Pl20_20.out)
      have nl29_29 : Hid (l29_29.length = a.length) := Lib.hid (by rw [← hl29_29, List.length_set]; exact nl20_20.out)
      have Pl29_29 : Hid (wl29_29.ownsRow b0 38 5 (.slice (some ⟨qt_9, 0, none⟩) a.length c0) a.length (Go.Proofs.Ytbnpdaipgamgkaa.PPaper.flat l29_29)) := Lib.hid (by have es_ := set_self gt_27.out; have e0_ := flat_set Go.Proofs.Ytbnpdaipgamgkaa.PPaper.Paper.cells 5 (fun _ => rfl) l20_20 (k0) 2 (Go.Proofs.Ytbnpdaipgamgkaa.PPaper.Paper.mk t_27_id t_27_thick t_27_tint t_27_mark t_27_laid) (Go.Proofs.Ytbnpdaipgamgkaa.PPaper.Paper.mk t_27_id t_27_thick t_22 t_27_mark t_27_laid) (.int .i64 t_22) lt_27 (by decide) rfl; rw [es_] at e0_; have e_ : ([(k0 * 5 + 2, .int .i64 t_22)] : List (Nat × Value)).foldl (fun xs p => xs.set p.1 p.2) (Go.Proofs.Ytbnpdaipgamgkaa.PPaper.flat l20_20) = (Go.Proofs.Ytbnpdaipgamgkaa.PPaper.flat l29_29) := (by rw [← hl29_29]; show _ = List.flatMap Go.Proofs.Ytbnpdaipgamgkaa.PPaper.Paper.cells _; first | (rw [← e0_]; first | done | rfl)); rw [← hwl29_29, ← e_]; exact Sl29_29.out.1)
      have Gl29_29 : Hid (wl20_20.grownBy wl29_29 (Value.slice (some ⟨qt_9, 0, none⟩) a.length c0).ownBlock) := Lib.hid (by rw [← hwl29_29]; exact Sl29_29.out.2)
      have HBwl29_29 := Lib.hid (Aid.grown_tr HBwl20_20.out Gl29_29.out)
      have hhl29_29 := Lib.hid hl29_29
      clear hl29_29 Sl29_29
      clear Pl20_20 Gl29_29
      replace H := let_hid H
      obtain ⟨t_31, ht_31, H⟩ := H
      replace H := bind_hid H
      obtain ⟨t_36, qt_36, H⟩ := H
      go_wp2_with fail
      clear z0l11_11 ct_9_0 ct_9_1 ct_9_2 ct_9_3 ct_9_4 z0l20_20 ct_18_0 ct_18_1 ct_18_2 ct_18_3 ct_18_4 z0l29_29 ct_27_0 ct_27_1 ct_27_2 ct_27_3 ct_27_4
      go_at_call 20
      refine (Go.Proofs.Ytbnpdaipgamgkaa.GlMarkText.C (t_31)  _    qt_36).mono ?_
      rintro e_t_36 wt_36 ⟨rfl, bt_36⟩
      have HBwt_36 := Lib.hid (grown_below HBwl29_29.out bt_36)
      replace Pl29_29 := Lib.hid (own_below Pl29_29.out bt_36)
      clear bt_36
      replace H := idx_hid H
      obtain ⟨nt_37, yt_37, et_37, lt_37, gt_37, H⟩ := H
      obtain rfl : k0 = nt_37 := by omega
      clear et_37
      obtain ⟨t_37_id, t_37_thick, t_37_tint, t_37_mark, t_37_laid⟩ := yt_37
      replace H := unPaper_hid H
      have hqt_37 := nl29_29.out
      obtain ⟨ab_t_37, ao_t_37, zt_37, At_37, z_t_37, ct_37_0, ct_37_1, ct_37_2, ct_37_3, ct_37_4⟩ := Go.Proofs.Ytbnpdaipgamgkaa.OPaper.at_ (own_cells Pl29_29.out) (k := k0) (by omega)
      obtain rfl := Option.some.inj (gt_37.out.symm.trans z_t_37)
      simp only [Option.some.injEq, Addr.mk.injEq] at At_37
      obtain ⟨rfl, rfl, _⟩ := At_37
      clear z_t_37
      simp only [Nat.zero_add] at ct_37_0 ct_37_1 ct_37_2 ct_37_3 ct_37_4
      have b0t_37 : (0 : Int) ≤ (k0 : Int) := by omega
      have b1t_37 : (k0 : Int) < ((a.length : Nat) : Int) := by omega
      have b2t_37 : ((k0 : Int)).toNat = k0 := by omega
      clear hqt_37
      replace H := let_hid H
      obtain ⟨l39_39, hl39_39, H⟩ := H
      try simp only [Int.toNat_natCast] at hl39_39
      obtain ⟨wl39_39, hwl39_39⟩ : ∃ x, (wt_36).setCell ⟨qt_9, k0 * 5 + 3, none⟩ (.string t_36) = x := ⟨_, rfl⟩
      have z0l39_39 := Pl29_29.out.frozenAt (k0 * 5 + 3)
      have Sl39_39 := Lib.hid (own_stores [(k0 * 5 + 3, .string t_36)] Pl29_29.out)
      have nl39_39 : Hid (l39_39.length = a.length) := Lib.hid (by rw [← hl39_39, List.length_set]; exact nl29_29.out)
      have Pl39_39 : Hid (wl39_39.ownsRow b0 38 5 (.slice (some ⟨qt_9, 0, none⟩) a.length c0) a.length (Go.Proofs.Ytbnpdaipgamgkaa.PPaper.flat l39_39)) := Lib.hid (by have es_ := set_self gt_37.out; have e0_ := flat_set Go.Proofs.Ytbnpdaipgamgkaa.PPaper.Paper.cells 5 (fun _ => rfl) l29_29 (k0) 3 (Go.Proofs.Ytbnpdaipgamgkaa.PPaper.Paper.mk t_37_id t_37_thick t_37_tint t_37_mark t_37_laid) (Go.Proofs.Ytbnpdaipgamgkaa.PPaper.Paper.mk t_37_id t_37_thick t_37_tint t_36 t_37_laid) (.string t_36) lt_37 (by decide) rfl; rw [es_] at e0_; have e_ : ([(k0 * 5 + 3, .string t_36)] : List (Nat × Value)).foldl (fun xs p => xs.set p.1 p.2) (Go.Proofs.Ytbnpdaipgamgkaa.PPaper.flat l29_29) = (Go.Proofs.Ytbnpdaipgamgkaa.PPaper.flat l39_39) := (by rw [← hl39_39]; show _ = List.flatMap Go.Proofs.Ytbnpdaipgamgkaa.PPaper.Paper.cells _; first | (rw [← e0_]; first | done | rfl)); rw [← hwl39_39, ← e_]; exact Sl39_39.out.1)
      have Gl39_39 : Hid (wt_36.grownBy wl39_39 (Value.slice (some ⟨qt_9, 0, none⟩) a.length c0).ownBlock) := Lib.hid (by rw [← hwl39_39]; exact Sl39_39.out.2)
      have HBwl39_39 := Lib.hid (Aid.grown_tr HBwt_36.out Gl39_39.out)
      have hhl39_39 := Lib.hid hl39_39
      clear hl39_39 Sl39_39
      clear Pl29_29 Gl39_39
      replace H := let_hid H
      obtain ⟨t_41, ht_41, H⟩ := H
      replace H := let_hid H
      obtain ⟨t_46, ht_46, H⟩ := H
      replace H := let_hid H
      obtain ⟨t_47, ht_47, H⟩ := H
      replace H := idx_hid H
      obtain ⟨nt_48, yt_48, et_48, lt_48, gt_48, H⟩ := H
      obtain rfl : k0 = nt_48 := by omega
      clear et_48
      obtain ⟨t_48_id, t_48_thick, t_48_tint, t_48_mark, t_48_laid⟩ := yt_48
      replace H := unPaper_hid H
      have hqt_48 := nl39_39.out
      obtain ⟨ab_t_48, ao_t_48, zt_48, At_48, z_t_48, ct_48_0, ct_48_1, ct_48_2, ct_48_3, ct_48_4⟩ := Go.Proofs.Ytbnpdaipgamgkaa.OPaper.at_ (own_cells Pl39_39.out) (k := k0) (by omega)
      obtain rfl := Option.some.inj (gt_48.out.symm.trans z_t_48)
      simp only [Option.some.injEq, Addr.mk.injEq] at At_48
      obtain ⟨rfl, rfl, _⟩ := At_48
      clear z_t_48
      simp only [Nat.zero_add] at ct_48_0 ct_48_1 ct_48_2 ct_48_3 ct_48_4
      have b0t_48 : (0 : Int) ≤ (k0 : Int) := by omega
      have b1t_48 : (k0 : Int) < ((a.length : Nat) : Int) := by omega
      have b2t_48 : ((k0 : Int)).toNat = k0 := by omega
      clear hqt_48
      replace H := let_hid H
      obtain ⟨l50_50, hl50_50, H⟩ := H
      try simp only [Int.toNat_natCast] at hl50_50
      obtain ⟨wl50_50, hwl50_50⟩ : ∃ x, (wl39_39).setCell ⟨qt_9, k0 * 5 + 4, none⟩ (.bool t_47) = x := ⟨_, rfl⟩
      have z0l50_50 := Pl39_39.out.frozenAt (k0 * 5 + 4)
      have Sl50_50 := Lib.hid (own_stores [(k0 * 5 + 4, .bool t_47)] Pl39_39.out)
      have nl50_50 : Hid (l50_50.length = a.length) := Lib.hid (by rw [← hl50_50, List.length_set]; exact nl39_39.out)
      have Pl50_50 : Hid (wl50_50.ownsRow b0 38 5 (.slice (some ⟨qt_9, 0, none⟩) a.length c0) a.length (Go.Proofs.Ytbnpdaipgamgkaa.PPaper.flat l50_50)) := Lib.hid (by have es_ := set_self gt_48.out; have e0_ := flat_set Go.Proofs.Ytbnpdaipgamgkaa.PPaper.Paper.cells 5 (fun _ => rfl) l39_39 (k0) 4 (Go.Proofs.Ytbnpdaipgamgkaa.PPaper.Paper.mk t_48_id t_48_thick t_48_tint t_48_mark t_48_laid) (Go.Proofs.Ytbnpdaipgamgkaa.PPaper.Paper.mk t_48_id t_48_thick t_48_tint t_48_mark t_47) (.bool t_47) lt_48 (by decide) rfl; rw [es_] at e0_; have e_ : ([(k0 * 5 + 4, .bool t_47)] : List (Nat × Value)).foldl (fun xs p => xs.set p.1 p.2) (Go.Proofs.Ytbnpdaipgamgkaa.PPaper.flat l39_39) = (Go.Proofs.Ytbnpdaipgamgkaa.PPaper.flat l50_50) := (by rw [← hl50_50]; show _ = List.flatMap Go.Proofs.Ytbnpdaipgamgkaa.PPaper.Paper.cells _; first | (rw [← e0_]; first | done | rfl)); rw [← hwl50_50, ← e_]; exact Sl50_50.out.1)
      have Gl50_50 : Hid (wl39_39.grownBy wl50_50 (Value.slice (some ⟨qt_9, 0, none⟩) a.length c0).ownBlock) := Lib.hid (by rw [← hwl50_50]; exact Sl50_50.out.2)
      have HBwl50_50 := Lib.hid (Aid.grown_tr HBwl39_39.out Gl50_50.out)
      have hhl50_50 := Lib.hid hl50_50
      clear hl50_50 Sl50_50
      clear Pl39_39 Gl50_50
      replace H := let_hid H
      obtain ⟨t_52, ht_52, H⟩ := H
      replace H := app_hid H
      go_wp2_with fail
      clear z0l39_39 ct_37_0 ct_37_1 ct_37_2 ct_37_3 ct_37_4 z0l50_50 ct_48_0 ct_48_1 ct_48_2 ct_48_3 ct_48_4
      go_roundg m0
      case measure => omega
      case rel => exact ⟨k0 + 1, _, _, by omega, by go_num, rfl, H, HBwl50_50, Pl50_50, Lib.hid (nl50_50.out)⟩
end Go.Proofs.Ytbnpdaipgamgkaa.GlMarkPaperS

/- loop.example/g01062/laws.markStringS as a plain function, and the contract of the program's: where the plain one has an answer, the program has it. Conditions: slices read as lists. -/
namespace Go.Proofs.Ytbnpdaipgamgkaa.GlMarkStringS
set_option linter.unusedVariables false
set_option linter.unusedSimpArgs false
open Go.RowKit
open Go.Proofs.Ytbnpdaipgamgkaa.Rowed Go.Proofs.Ytbnpdaipgamgkaa.Turn Go.Proofs.Ytbnpdaipgamgkaa.Aid Go.Proofs.Ytbnpdaipgamgkaa.GoP Go.Proofs.Ytbnpdaipgamgkaa.GoM

def l0  (k0 : Nat) (s : (List ByteArray) × Int) (nx0 bk0 : (List ByteArray) × Int → Option (Int × (List ByteArray))) : Option (Int × (List ByteArray)) :=
  unp2 s fun a_0l0 k_1l0 =>
  Option.bind (Go.Proofs.Ytbnpdaipgamgkaa.GlMarkText.P k_1l0) fun (t_9 : ByteArray) =>
  Option.bind (idx a_0l0 (k0 : Int)) fun (yt_10 : ByteArray) =>
  letK (a_0l0.set k0 t_9) fun (l11_11 : (List ByteArray)) =>
  letK (IntKind.i64.wrap (k_1l0 + 1)) fun (t_13 : Int) =>
  appK nx0 (l11_11, t_13)

def e0  (s : (List ByteArray) × Int) : Option (Int × (List ByteArray)) :=
  unp2 s fun a_0l0 k_1l0 =>
  some (k_1l0, a_0l0)

def P (a : (List ByteArray)) (k_1 : Int) : Option (Int × (List ByteArray)) :=
  cntK (l0 ) (a.length) 0 (a, k_1) (e0 )

set_option maxRecDepth 100000 in
set_option maxHeartbeats 2000000 in
theorem C (a : (List ByteArray)) (k_1 : Int) (A0 : Option Addr) (c0 : Nat)  (b0 : Nat) (w : World) (M0 : Hid (w.ownsRow b0 9 1 (.slice A0 a.length c0) a.length (a.map Value.string))) (N0 : Hid (a.length ≤ 9223372036854775807))  {r : Int} {l_ : (List ByteArray)} (H : Hid (P a k_1 = some (r, l_))) :
    Calls Try.prog 11 #[.slice A0 a.length c0, .int .i64 k_1] w (fun e w' => e = .returned (.int .i64 r) ∧ w'.ownsRow b0 9 1 (.slice A0 a.length c0) a.length (l_.map Value.string) ∧ l_.length = a.length ∧ w.grownBy w' (Value.slice A0 a.length c0).ownBlock) := by
  have HB := Lib.hid (Aid.grown_refl w (Value.slice A0 a.length c0).ownBlock)
  unfold P at H
  have N0o := N0.out
  go_enter Try.func11, Try.ntmps11
  go_wp2_with fail
  have hb_0 : a.length ≤ 9223372036854775807 := own_max M0.out
  go_wp2_with fail
  go_loopg [5, 1] (a.length) (fun m_ v5_ v1_ wr => ∃ (k0 : Nat) (a_0l0 : (List ByteArray)) (k_1l0 : Int), k0 + m_ = a.length ∧ v5_ = .int .i64 (k0 : Int) ∧ v1_ = .int .i64 k_1l0 ∧ Hid (cntK (l0 ) m_ k0 (a_0l0, k_1l0) (e0 ) = some (r, l_)) ∧ Hid (w.grownBy wr (Value.slice A0 a.length c0).ownBlock) ∧ Hid (wr.ownsRow b0 9 1 (.slice A0 a.length c0) a.length (a_0l0.map Value.string)) ∧ Hid (a_0l0.length = a.length))
  case atStart => exact ⟨0, _, _, by omega, rfl, rfl, H, HB, M0, Lib.hid (rfl)⟩
  case round =>
    obtain ⟨k0, a_0l0, k_1l0, hkm0, rfl, rfl, H, HBwr0, Oa_0l0, hna_0l0⟩ := hrel
    rename World => wr0
    cases gk with
    | zero =>
      obtain rfl : k0 = a.length := by omega
      have hc0 : decide (((a.length : Nat) : Int) < ((a.length : Nat) : Int)) = false := by simp
      replace H := cnt_zero H
      unfold e0 at H
      replace H := unp2_hid H
      cases ret_hid H
      go_wp2_with fail
      go_ret
      exact ⟨rfl, Oa_0l0.out, hna_0l0.out, HBwr0.out⟩
    | succ m0 =>
      have hlt0 : k0 < a.length := by omega
      have hc0 : decide ((k0 : Int) < ((a.length : Nat) : Int)) = true := by simp; omega
      replace H := cnt_succ H
      unfold l0 at H
      replace H := unp2_hid H
      replace H := bind_hid H
      obtain ⟨t_9, qt_9, H⟩ := H
      go_wp2_with fail
      go_at_call 20
      refine (Go.Proofs.Ytbnpdaipgamgkaa.GlMarkText.C (k_1l0)  _    qt_9).mono ?_
      rintro e_t_9 wt_9 ⟨rfl, bt_9⟩
      have HBwt_9 := Lib.hid (grown_below HBwr0.out bt_9)
      replace Oa_0l0 := Lib.hid (own_below Oa_0l0.out bt_9)
      clear bt_9
      replace H := idx_hid H
      obtain ⟨nt_10, yt_10, et_10, lt_10, gt_10, H⟩ := H
      obtain rfl : k0 = nt_10 := by omega
      clear et_10
      have hqt_10 := hna_0l0.out
      obtain ⟨qt_10, Qt_10⟩ := own_some Oa_0l0.out (by omega)
      subst Qt_10
      obtain ⟨ab_t_10, ao_t_10, zt_10, At_10, z_t_10, ct_10_0⟩ := strs_at (own_cells Oa_0l0.out) (k := k0) (by omega)
      obtain rfl := Option.some.inj (gt_10.out.symm.trans z_t_10)
      simp only [Option.some.injEq, Addr.mk.injEq] at At_10
      obtain ⟨rfl, rfl, _⟩ := At_10
      clear z_t_10
      simp only [Nat.zero_add] at ct_10_0
      have b0t_10 : (0 : Int) ≤ (k0 : Int) := by omega
      have b1t_10 : (k0 : Int) < ((a.length : Nat) : Int) := by omega
      have b2t_10 : ((k0 : Int)).toNat = k0 := by omega
      clear hqt_10
      replace H := let_hid H
      obtain ⟨l11_11, hl11_11, H⟩ := H
      try simp only [Int.toNat_natCast] at hl11_11
      obtain ⟨wl11_11, hwl11_11⟩ : ∃ x, (wt_9).setCell ⟨qt_10, k0, none⟩ (.string t_9) = x := ⟨_, rfl⟩
      have z0l11_11 := Oa_0l0.out.frozenAt (k0)
      have Sl11_11 := Lib.hid (own_stores [(k0, .string t_9)] Oa_0l0.out)
      have nl11_11 : Hid (l11_11.length = a.length) := Lib.hid (by rw [← hl11_11, List.length_set]; exact hna_0l0.out)
      have Pl11_11 : Hid (wl11_11.ownsRow b0 9 1 (.slice (some ⟨qt_10, 0, none⟩) a.length c0) a.length (l11_11.map Value.string)) := Lib.hid (by have e_ : ([(k0, .string t_9)] : List (Nat × Value)).foldl (fun xs p => xs.set p.1 p.2) (a_0l0.map Value.string) = (l11_11.map Value.string) := (by rw [← hl11_11]; first | done | simp [List.map_set]); rw [← hwl11_11, ← e_]; exact Sl11_11.out.1)
      have Gl11_11 : Hid (wt_9.grownBy wl11_11 (Value.slice (some ⟨qt_10, 0, none⟩) a.length c0).ownBlock) := Lib.hid (by rw [← hwl11_11]; exact Sl11_11.out.2)
      have HBwl11_11 := Lib.hid (Aid.grown_tr HBwt_9.out Gl11_11.out)
      have hhl11_11 := Lib.hid hl11_11
      clear hl11_11 Sl11_11
      clear Oa_0l0 Gl11_11
      replace H := let_hid H
      obtain ⟨t_13, ht_13, H⟩ := H
      replace H := app_hid H
      go_wp2_with fail
      clear z0l11_11 ct_10_0
      go_roundg m0
      case measure => omega
      case rel => exact ⟨k0 + 1, _, _, by omega, by go_num, rfl, H, HBwl11_11, Pl11_11, Lib.hid (nl11_11.out)⟩
end Go.Proofs.Ytbnpdaipgamgkaa.GlMarkStringS

/- loop.example/g01062/laws.heldStringS as a plain function, and the contract of the program's: where the plain one has an answer, the program has it. Conditions: slices read as lists. -/
namespace Go.Proofs.Ytbnpdaipgamgkaa.GlHeldStringS
set_option linter.unusedVariables false
set_option linter.unusedSimpArgs false
open Go.RowKit
open Go.Proofs.Ytbnpdaipgamgkaa.Rowed Go.Proofs.Ytbnpdaipgamgkaa.Turn Go.Proofs.Ytbnpdaipgamgkaa.Aid Go.Proofs.Ytbnpdaipgamgkaa.GoP Go.Proofs.Ytbnpdaipgamgkaa.GoM

def l0 (a : (List ByteArray)) (k0 : Nat) (s : Int) (nx0 bk0 : Int → Option (Int)) : Option (Int) :=
  letK s fun k_1l0 =>
  Option.bind (idx a (k0 : Int)) fun (yt_8 : ByteArray) =>
  Option.bind (Go.Proofs.Ytbnpdaipgamgkaa.GlMarkText.P k_1l0) fun (t_11 : ByteArray) =>
  letK (!(yt_8.toList == t_11.toList)) fun (t_12 : Bool) =>
  iteK t_12
  (some (-1))
  (letK (IntKind.i64.wrap (k_1l0 + 1)) fun (t_15 : Int) =>
  appK nx0 (t_15))

def e0  (s : Int) : Option (Int) :=
  letK s fun k_1l0 =>
  some k_1l0

def P (a : (List ByteArray)) (k_1 : Int) : Option (Int) :=
  cntK (l0 a) (a.length) 0 (k_1) (e0 )

set_option maxRecDepth 100000 in
set_option maxHeartbeats 2000000 in
theorem C (a : (List ByteArray)) (k_1 : Int) (A0 : Option Addr) (c0 : Nat)  (w : World) (M0 : Hid (Cells w 1 A0 a.length (a.map Value.string))) (N0 : Hid (a.length ≤ 9223372036854775807))  {r : Int} (H : Hid (P a k_1 = some r)) :
    Calls Try.prog 12 #[.slice A0 a.length c0, .int .i64 k_1] w (Gives (.int .i64 r) w) := by
  have HB := Lib.hid (Below.refl w.heap.size w)
  unfold P at H
  have N0o := N0.out
  go_enter Try.func12, Try.ntmps12
  go_wp2_with fail
  go_loopg [5, 1] (a.length) (fun m_ v5_ v1_ wr => ∃ (k0 : Nat) (k_1l0 : Int), k0 + m_ = a.length ∧ v5_ = .int .i64 (k0 : Int) ∧ v1_ = .int .i64 k_1l0 ∧ Hid (cntK (l0 a) m_ k0 (k_1l0) (e0 ) = some r) ∧ Hid (Below w.heap.size w wr))
  case atStart => exact ⟨0, _, by omega, rfl, rfl, H, HB⟩
  case round =>
    obtain ⟨k0, k_1l0, hkm0, rfl, rfl, H, HBwr0⟩ := hrel
    rename World => wr0
    cases gk with
    | zero =>
      obtain rfl : k0 = a.length := by omega
      have hc0 : decide (((a.length : Nat) : Int) < ((a.length : Nat) : Int)) = false := by simp
      replace H := cnt_zero H
      unfold e0 at H
      replace H := let_hid H
      obtain ⟨_, rfl, H⟩ := H
      obtain rfl := ret_hid H
      go_wp2_with fail
      go_ret
      exact ⟨rfl, HBwr0.out⟩
    | succ m0 =>
      have hlt0 : k0 < a.length := by omega
      have hc0 : decide ((k0 : Int) < ((a.length : Nat) : Int)) = true := by simp; omega
      replace H := cnt_succ H
      unfold l0 at H
      replace H := let_hid H
      obtain ⟨_, rfl, H⟩ := H
      go_wp2_with fail
      replace H := idx_hid H
      obtain ⟨nt_8, yt_8, et_8, lt_8, gt_8, H⟩ := H
      obtain rfl : k0 = nt_8 := by omega
      clear et_8
      obtain ⟨ab_t_8, ao_t_8, zt_8, At_8, z_t_8, ct_8_0⟩ := strs_at M0.out lt_8
      obtain rfl := Option.some.inj (gt_8.out.symm.trans z_t_8)
      subst At_8
      have ltt_8 := cell_lt ct_8_0
      replace ct_8_0 := cell_below HBwr0.out ct_8_0
      clear z_t_8
      have b0t_8 : (0 : Int) ≤ (k0 : Int) := by omega
      have b1t_8 : (k0 : Int) < ((a.length : Nat) : Int) := by omega
      have b2t_8 : ((k0 : Int)).toNat = k0 := by omega
      have Hct_8_0 := Lib.hid ct_8_0
      replace ct_8_0 := cell_regrown ct_8_0
      replace H := bind_hid H
      obtain ⟨t_11, qt_11, H⟩ := H
      have nt_11 : ∀ d os, Calls Try.prog 20 #[.int .i64 k_1l0] (Go.Sort.grow (redrawn wr0 d) os) fun e w'' => e = .returned (.string t_11) ∧ ∃ p : Regrown, w'' = Go.Sort.grow (redrawn wr0 p.d) p.os := fun d os => Calls.regrown_of (Go.Proofs.Ytbnpdaipgamgkaa.GlMarkText.C (k_1l0)  _    qt_11)
      replace H := let_hid H
      obtain ⟨t_12, ht_12, H⟩ := H
      refine wp_region_quiet_below (by kernel_rfl) (by kernel_rfl) ?_
      repeat (go_big_quiet_step (first | (go_at_call 20; exact nt_11 _ _)))
      refine wpQuiet_nil ?_
      intro Y4 hY4
      replace hY4 := below_class hY4
      clear nt_11
      replace ct_8_0 := Hct_8_0.out
      clear Hct_8_0
      have HBY4 := Lib.hid (Below.step HBwr0.out hY4)
      replace ct_8_0 := cell_below hY4 ct_8_0
      clear hY4
      cases t_12 with
      | false =>
        replace H := ite_f H
        replace H := let_hid H
        obtain ⟨t_15, ht_15, H⟩ := H
        replace H := app_hid H
        go_wp2_with fail
        go_roundg m0
        case measure => omega
        case rel => exact ⟨k0 + 1, _, by omega, by go_num, rfl, H, HBY4⟩
      | true =>
        replace H := ite_t H
        obtain rfl := ret_hid H
        go_wp2_with fail
        go_ret
        exact ⟨rfl, HBY4.out⟩
end Go.Proofs.Ytbnpdaipgamgkaa.GlHeldStringS

/- loop.example/g01062/laws.FnExactMarkNames as a plain function, and the contract of the program's: where the plain one has an answer, the program has it. Conditions: slices read as lists. -/
namespace Go.Proofs.Ytbnpdaipgamgkaa.GlFnExactMarkNames
set_option linter.unusedVariables false
set_option linter.unusedSimpArgs false
open Go.RowKit
open Go.Proofs.Ytbnpdaipgamgkaa.Rowed Go.Proofs.Ytbnpdaipgamgkaa.Turn Go.Proofs.Ytbnpdaipgamgkaa.Aid Go.Proofs.Ytbnpdaipgamgkaa.GoP Go.Proofs.Ytbnpdaipgamgkaa.GoM

def P (fuel : Nat) (aList : (List Go.Proofs.Ytbnpdaipgamgkaa.PPaper.Paper)) : Option (Bool) :=
  Option.bind (Go.Proofs.Ytbnpdaipgamgkaa.GlSzPaperS.P aList 1048576) fun (t_4 : Int) =>
  letK (decide (t_4 < 0)) fun (t_7 : Bool) =>
  iteK t_7
  (some true)
  (Option.bind (Go.Proofs.Ytbnpdaipgamgkaa.GlToPaperS.P aList) fun (t_10 : (List Go.Proofs.Ytbnpdaipgamgkaa.PPaper.Paper)) =>
  bind2 (Go.Proofs.Ytbnpdaipgamgkaa.GsMarkNames.P fuel t_10) fun (t_11a : (List ByteArray)) (t_11b : Bool) =>
  Option.bind (Go.Proofs.Ytbnpdaipgamgkaa.GlToPaperS.P aList) fun (t_18 : (List Go.Proofs.Ytbnpdaipgamgkaa.PPaper.Paper)) =>
  bind2 (Go.Proofs.Ytbnpdaipgamgkaa.GiMarkNames.P t_18) fun (t_21a : (List ByteArray)) (t_21b : Bool) =>
  Option.bind (Go.Proofs.Ytbnpdaipgamgkaa.GlEqStringS.P t_21a t_11a) fun (t_29 : Bool) =>
  letK (!t_29) fun (t_30 : Bool) =>
  joinK (fun (t_35 : Bool) =>
  iteK t_35
  (some false)
  (Option.bind (Go.Proofs.Ytbnpdaipgamgkaa.GlToPaperS.P aList) fun (t_39 : (List Go.Proofs.Ytbnpdaipgamgkaa.PPaper.Paper)) =>
  Option.bind (Go.Proofs.Ytbnpdaipgamgkaa.GlEqPaperS.P t_18 t_39) fun (t_40 : Bool) =>
  letK (!t_40) fun (t_41 : Bool) =>
  iteK t_41
  (some false)
  (bind2 (Go.Proofs.Ytbnpdaipgamgkaa.GlMarkPaperS.P t_18 1) fun (t_46 : Int) (lt_46 : (List Go.Proofs.Ytbnpdaipgamgkaa.PPaper.Paper)) =>
  letK (decide (t_46 < 0)) fun (t_49 : Bool) =>
  joinK (fun (t_55 : Bool) =>
  joinK (fun (t_60 : Bool) =>
  iteK t_60
  (some false)
  (bind2 (Go.Proofs.Ytbnpdaipgamgkaa.GlMarkStringS.P t_21a 1) fun (t_65 : Int) (lt_65 : (List ByteArray)) =>
  Option.bind (Go.Proofs.Ytbnpdaipgamgkaa.GlHeldStringS.P lt_65 1) fun (t_70 : Int) =>
  letK (decide (t_70 < 0)) fun (t_73 : Bool) =>
  iteK t_73
  (some false)
  (letK (t_70 != t_65) fun (t_77 : Bool) =>
  iteK t_77
  (some false)
  (Option.bind (Go.Proofs.Ytbnpdaipgamgkaa.GlToPaperS.P aList) fun (t_80 : (List Go.Proofs.Ytbnpdaipgamgkaa.PPaper.Paper)) =>
  bind2 (Go.Proofs.Ytbnpdaipgamgkaa.GiMarkNames.P t_80) fun (t_81a : (List ByteArray)) (t_81b : Bool) =>
  Option.bind (Go.Proofs.Ytbnpdaipgamgkaa.GlEqStringS.P t_81a t_11a) fun (t_89 : Bool) =>
  letK (!t_89) fun (t_90 : Bool) =>
  joinK (fun (t_95 : Bool) =>
  iteK t_95
  (some false)
  (Option.bind (Go.Proofs.Ytbnpdaipgamgkaa.GlHeldStringS.P lt_65 1) fun (t_100 : Int) =>
  letK (decide (t_100 < 0)) fun (t_103 : Bool) =>
  iteK t_103
  (some false)
  (letK (t_100 != t_65) fun (t_107 : Bool) =>
  iteK t_107
  (some false)
  (some true)))) fun jt_95 => iteK t_90 (appK jt_95 true) (letK (!(t_81b == t_11b)) fun (t_94 : Bool) =>
  appK jt_95 t_94))))) fun jt_60 => iteK t_55 (appK jt_60 true) (letK (!(t_21b == t_11b)) fun (t_59 : Bool) =>
  appK jt_60 t_59)) fun jt_55 => iteK t_49 (appK jt_55 true) (Option.bind (Go.Proofs.Ytbnpdaipgamgkaa.GlEqStringS.P t_21a t_11a) fun (t_53 : Bool) =>
  letK (!t_53) fun (t_54 : Bool) =>
  appK jt_55 t_54)))) fun jt_35 => iteK t_30 (appK jt_35 true) (letK (!(t_21b == t_11b)) fun (t_34 : Bool) =>
  appK jt_35 t_34))

set_option maxRecDepth 100000 in
set_option maxHeartbeats 2000000 in
theorem C (fuel : Nat) (aList : (List Go.Proofs.Ytbnpdaipgamgkaa.PPaper.Paper)) (A0 : Option Addr) (c0 : Nat)  (w : World) (M0 : Hid (Cells w 5 A0 aList.length (Go.Proofs.Ytbnpdaipgamgkaa.PPaper.flat aList))) (N0 : Hid (aList.length ≤ 9223372036854775807))  {r : Bool} (H : Hid (P fuel aList = some r)) :
    Calls Try.prog 3 #[.slice A0 aList.length c0] w (Gives (.bool r) w) := by
  have HB := Lib.hid (Below.refl w.heap.size w)
  unfold P at H
  have N0o := N0.out
  go_enter Try.func3, Try.ntmps3
  replace H := bind_hid H
  obtain ⟨t_4, qt_4, H⟩ := H
  go_wp2_with fail
  go_at_call 4
  refine (Go.Proofs.Ytbnpdaipgamgkaa.GlSzPaperS.C (aList) (1048576) A0 c0 _   (Lib.hid (Cells.below M0.out HB.out)) N0 qt_4).mono ?_
  rintro e_t_4 wt_4 ⟨rfl, bt_4⟩
  have HBwt_4 := Lib.hid (Below.step HB.out bt_4)
  clear bt_4
  replace H := let_hid H
  obtain ⟨t_7, ht_7, H⟩ := H
  cases t_7 with
  | false =>
    replace H := ite_f H
    replace H := bind_hid H
    obtain ⟨t_10, qt_10, H⟩ := H
    go_wp2_with fail
    go_at_call 6
    refine (Go.Proofs.Ytbnpdaipgamgkaa.GlToPaperS.C (aList) A0 c0 _   (Lib.hid (Cells.below M0.out HBwt_4.out)) N0 qt_10).mono ?_
    rintro e_t_10 wt_10 ⟨At_10, ct_10, rfl, ot_10, bt_10⟩
    have Ot_10 := Lib.hid (own_lower ot_10 HBwt_4.out.size)
    clear ot_10
    have HBwt_10 := Lib.hid (Below.step HBwt_4.out bt_10)
    clear bt_10
    replace H := bind2_hid H
    obtain ⟨t_11a, t_11b, qt_11, H⟩ := H
    go_wp2_with fail
    go_at_call 5
    refine (Go.Proofs.Ytbnpdaipgamgkaa.GsMarkNames.C fuel (t_10) At_10 ct_10 _   (Lib.hid (own_cells Ot_10.out)) (Lib.hid (own_max Ot_10.out)) qt_11).mono ?_
    rintro e_t_11 wt_11 ⟨At_11a, ct_11a, rfl, ot_11a, bt_11⟩
    have Dt_11a_t_10 := Lib.hid (apart_call ot_11a Ot_10.out)
    have Ot_11a := Lib.hid (own_lower ot_11a HBwt_10.out.size)
    clear ot_11a
    have HBwt_11 := Lib.hid (Below.step HBwt_10.out bt_11)
    replace Ot_10 := Lib.hid (own_below Ot_10.out bt_11)
    clear bt_11
    replace H := bind_hid H
    obtain ⟨t_18, qt_18, H⟩ := H
    go_wp2_with fail
    go_at_call 6
    refine (Go.Proofs.Ytbnpdaipgamgkaa.GlToPaperS.C (aList) A0 c0 _   (Lib.hid (Cells.below M0.out HBwt_11.out)) N0 qt_18).mono ?_
    rintro e_t_18 wt_18 ⟨At_18, ct_18, rfl, ot_18, bt_18⟩
    have Dt_18_t_10 := Lib.hid (apart_call ot_18 Ot_10.out)
    have Dt_18_t_11a := Lib.hid (apart_call ot_18 Ot_11a.out)
    have Ot_18 := Lib.hid (own_lower ot_18 HBwt_11.out.size)
    clear ot_18
    have HBwt_18 := Lib.hid (Below.step HBwt_11.out bt_18)
    replace Ot_10 := Lib.hid (own_below Ot_10.out bt_18)
    replace Ot_11a := Lib.hid (own_below Ot_11a.out bt_18)
    clear bt_18
    replace H := bind2_hid H
    obtain ⟨t_21a, t_21b, qt_21, H⟩ := H
    go_wp2_with fail
    go_at_call 7
    refine (Go.Proofs.Ytbnpdaipgamgkaa.GiMarkNames.C (t_18) At_18 ct_18 _   (Lib.hid (own_cells Ot_18.out)) (Lib.hid (own_max Ot_18.out)) qt_21).mono ?_
    rintro e_t_21 wt_21 ⟨At_21a, ct_21a, rfl, ot_21a, bt_21⟩
    have Dt_21a_t_10 := Lib.hid (apart_call ot_21a Ot_10.out)
    have Dt_21a_t_11a := Lib.hid (apart_call ot_21a Ot_11a.out)
    have Dt_21a_t_18 := Lib.hid (apart_call ot_21a Ot_18.out)
    have Ot_21a := Lib.hid (own_lower ot_21a HBwt_18.out.size)
    clear ot_21a
    have HBwt_21 := Lib.hid (Below.step HBwt_18.out bt_21)
    replace Ot_10 := Lib.hid (own_below Ot_10.out bt_21)
    replace Ot_11a := Lib.hid (own_below Ot_11a.out bt_21)
    replace Ot_18 := Lib.hid (own_below Ot_18.out bt_21)
    clear bt_21
    replace H := bind_hid H
    obtain ⟨t_29, qt_29, H⟩ := H
    go_wp2_with fail
    go_at_call 8
    refine (Go.Proofs.Ytbnpdaipgamgkaa.GlEqStringS.C (t_21a) (t_11a) At_21a ct_21a At_11a ct_11a _   (Lib.hid (own_cells Ot_21a.out)) (Lib.hid (own_max Ot_21a.out)) (Lib.hid (own_cells Ot_11a.out)) (Lib.hid (own_max Ot_11a.out)) qt_29).mono ?_
    rintro e_t_29 wt_29 ⟨rfl, bt_29⟩
    have HBwt_29 := Lib.hid (Below.step HBwt_21.out bt_29)
    replace Ot_10 := Lib.hid (own_below Ot_10.out bt_29)
    replace Ot_11a := Lib.hid (own_below Ot_11a.out bt_29)
    replace Ot_18 := Lib.hid (own_below Ot_18.out bt_29)
    replace Ot_21a := Lib.hid (own_below Ot_21a.out bt_29)
    clear bt_29
    cases t_29 with
    | false =>
      replace H := let_hid H
      obtain ⟨t_30, ht_30, H⟩ := H
      obtain rfl : t_30 = true := ht_30.symm
      replace H := join_hid H
      replace H := ite_t H
      replace H := app_hid H
      replace H := ite_t H
      obtain rfl := ret_hid H
      go_wp2_with fail
      go_ret
      exact ⟨rfl, HBwt_29.out⟩
    | true =>
      replace H := let_hid H
      obtain ⟨t_30, ht_30, H⟩ := H
      obtain rfl : t_30 = false := ht_30.symm
      replace H := join_hid H
      replace H := ite_f H
      replace H := let_hid H
      obtain ⟨t_34, ht_34, H⟩ := H
      replace H := app_hid H
      cases t_34 with
      | false =>
        replace H := ite_f H
        replace H := bind_hid H
        obtain ⟨t_39, qt_39, H⟩ := H
        go_wp2_with fail
        go_at_call 6
        refine (Go.Proofs.Ytbnpdaipgamgkaa.GlToPaperS.C (aList) A0 c0 _   (Lib.hid (Cells.below M0.out HBwt_29.out)) N0 qt_39).mono ?_
        rintro e_t_39 wt_39 ⟨At_39, ct_39, rfl, ot_39, bt_39⟩
        have Dt_39_t_10 := Lib.hid (apart_call ot_39 Ot_10.out)
        have Dt_39_t_11a := Lib.hid (apart_call ot_39 Ot_11a.out)
        have Dt_39_t_18 := Lib.hid (apart_call ot_39 Ot_18.out)
        have Dt_39_t_21a := Lib.hid (apart_call ot_39 Ot_21a.out)
        have Ot_39 := Lib.hid (own_lower ot_39 HBwt_29.out.size)
        clear ot_39
        have HBwt_39 := Lib.hid (Below.step HBwt_29.out bt_39)
        replace Ot_10 := Lib.hid (own_below Ot_10.out bt_39)
        replace Ot_11a := Lib.hid (own_below Ot_11a.out bt_39)
        replace Ot_18 := Lib.hid (own_below Ot_18.out bt_39)
        replace Ot_21a := Lib.hid (own_below Ot_21a.out bt_39)
        clear bt_39
        replace H := bind_hid H
        obtain ⟨t_40, qt_40, H⟩ := H
        go_wp2_with fail
        go_at_call 9
        refine (Go.Proofs.Ytbnpdaipgamgkaa.GlEqPaperS.C (t_18) (t_39) At_18 ct_18 At_39 ct_39 _   (Lib.hid (own_cells Ot_18.out)) (Lib.hid (own_max Ot_18.out)) (Lib.hid (own_cells Ot_39.out)) (Lib.hid (own_max Ot_39.out)) qt_40).mono ?_
        rintro e_t_40 wt_40 ⟨rfl, bt_40⟩
        have HBwt_40 := Lib.hid (Below.step HBwt_39.out bt_40)
        replace Ot_10 := Lib.hid (own_below Ot_10.out bt_40)
        replace Ot_11a := Lib.hid (own_below Ot_11a.out bt_40)
        replace Ot_18 := Lib.hid (own_below Ot_18.out bt_40)
        replace Ot_21a := Lib.hid (own_below Ot_21a.out bt_40)
        replace Ot_39 := Lib.hid (own_below Ot_39.out bt_40)
        clear bt_40
        cases t_40 with
        | false =>
          replace H := let_hid H
          obtain ⟨t_41, ht_41, H⟩ := H
          obtain rfl : t_41 = true := ht_41.symm
          replace H := ite_t H
          obtain rfl := ret_hid H
          go_wp2_with fail
          go_ret
          exact ⟨rfl, HBwt_40.out⟩
        | true =>
          replace H := let_hid H
          obtain ⟨t_41, ht_41, H⟩ := H
          obtain rfl : t_41 = false := ht_41.symm
          replace H := ite_f H
          replace H := bind2_hid H
          obtain ⟨t_46, lt_46, qt_46, H⟩ := H
          go_wp2_with fail
          go_at_call 10
          refine (Go.Proofs.Ytbnpdaipgamgkaa.GlMarkPaperS.C (t_18) (1) At_18 ct_18 w.heap.size _   Ot_18 (Lib.hid (own_max Ot_18.out))   qt_46).mono ?_
          rintro e_t_46 wt_46 ⟨rfl, ot_46, nt_46, gt_46⟩
          have Pt_46 := Lib.hid ot_46
          have Gt_46 := Lib.hid gt_46
          replace nt_46 := Lib.hid nt_46
          clear ot_46 gt_46
          have HBwt_46 := Lib.hid (HBwt_40.out.grown Gt_46.out HBwt_40.out.size (fun q hq => (Ot_18.out.lt q hq).1))
          replace Ot_10 := Lib.hid (own_other Ot_10.out Gt_46.out Dt_18_t_10.out)
          replace Ot_11a := Lib.hid (own_other Ot_11a.out Gt_46.out Dt_18_t_11a.out)
          replace Ot_21a := Lib.hid (own_other Ot_21a.out Gt_46.out (Apart.symm Dt_21a_t_18.out))
          replace Ot_39 := Lib.hid (own_other Ot_39.out Gt_46.out (Apart.symm Dt_39_t_18.out))
          clear Ot_18 Gt_46
          replace H := let_hid H
          obtain ⟨t_49, ht_49, H⟩ := H
          replace H := join_hid H
          cases t_49 with
          | false =>
            replace H := ite_f H
            replace H := bind_hid H
            obtain ⟨t_53, qt_53, H⟩ := H
            go_wp2_with fail
            go_at_call 8
            refine (Go.Proofs.Ytbnpdaipgamgkaa.GlEqStringS.C (t_21a) (t_11a) At_21a ct_21a At_11a ct_11a _   (Lib.hid (own_cells Ot_21a.out)) (Lib.hid (own_max Ot_21a.out)) (Lib.hid (own_cells Ot_11a.out)) (Lib.hid (own_max Ot_11a.out)) qt_53).mono ?_
            rintro e_t_53 wt_53 ⟨rfl, bt_53⟩
            have HBwt_53 := Lib.hid (Below.step HBwt_46.out bt_53)
            replace Ot_10 := Lib.hid (own_below Ot_10.out bt_53)
            replace Ot_11a := Lib.hid (own_below Ot_11a.out bt_53)
            replace Pt_46 := Lib.hid (own_below Pt_46.out bt_53)
            replace Ot_21a := Lib.hid (own_below Ot_21a.out bt_53)
            replace Ot_39 := Lib.hid (own_below Ot_39.out bt_53)
            clear bt_53
            cases t_53 with
            | false =>
              replace H := let_hid H
              obtain ⟨t_54, ht_54, H⟩ := H
              obtain rfl : t_54 = true := ht_54.symm
              replace H := app_hid H
              replace H := join_hid H
              replace H := ite_t H
              replace H := app_hid H
              replace H := ite_t H
              obtain rfl := ret_hid H
              go_wp2_with fail
              go_ret
              exact ⟨rfl, HBwt_53.out⟩
            | true =>
              replace H := let_hid H
              obtain ⟨t_54, ht_54, H⟩ := H
              obtain rfl : t_54 = false := ht_54.symm
              replace H := app_hid H
              replace H := join_hid H
              replace H := ite_f H
              replace H := let_hid H
              obtain ⟨t_59, ht_59, H⟩ := H
              obtain rfl := ht_34.symm.trans ht_59
              replace H := app_hid H
              replace H := ite_f H
              replace H := bind2_hid H
              obtain ⟨t_65, lt_65, qt_65, H⟩ := H
              go_wp2_with fail
              go_at_call 11
              refine (Go.Proofs.Ytbnpdaipgamgkaa.GlMarkStringS.C (t_21a) (1) At_21a ct_21a w.heap.size _   Ot_21a (Lib.hid (own_max Ot_21a.out))   qt_65).mono ?_
              rintro e_t_65 wt_65 ⟨rfl, ot_65, nt_65, gt_65⟩
              have Pt_65 := Lib.hid ot_65
              have Gt_65 := Lib.hid gt_65
              replace nt_65 := Lib.hid nt_65
              clear ot_65 gt_65
              have HBwt_65 := Lib.hid (HBwt_53.out.grown Gt_65.out HBwt_53.out.size (fun q hq => (Ot_21a.out.lt q hq).1))
              replace Ot_10 := Lib.hid (own_other Ot_10.out Gt_65.out Dt_21a_t_10.out)
              replace Ot_11a := Lib.hid (own_other Ot_11a.out Gt_65.out Dt_21a_t_11a.out)
              replace Pt_46 := Lib.hid (own_other Pt_46.out Gt_65.out Dt_21a_t_18.out)
              replace Ot_39 := Lib.hid (own_other Ot_39.out Gt_65.out (Apart.symm Dt_39_t_21a.out))
              clear Ot_21a Gt_65
              replace H := bind_hid H
              obtain ⟨t_70, qt_70, H⟩ := H
              go_wp2_with fail
              have hc_ := nt_65.out
              have hv_ : (Value.slice At_21a t_21a.length ct_21a : Value) = Value.slice At_21a lt_65.length ct_21a := by rw [hc_]
              try rw [hv_]
              replace Pt_65 := Lib.hid (own_len hc_ Pt_65.out)
              clear hc_ hv_
              go_wp2_with fail
              go_at_call 12
              refine (Go.Proofs.Ytbnpdaipgamgkaa.GlHeldStringS.C (lt_65) (1) At_21a ct_21a _   (Lib.hid (own_cells Pt_65.out)) (Lib.hid (own_max Pt_65.out)) qt_70).mono ?_
              rintro e_t_70 wt_70 ⟨rfl, bt_70⟩
              have HBwt_70 := Lib.hid (Below.step HBwt_65.out bt_70)
              replace Ot_10 := Lib.hid (own_below Ot_10.out bt_70)
              replace Ot_11a := Lib.hid (own_below Ot_11a.out bt_70)
              replace Pt_46 := Lib.hid (own_below Pt_46.out bt_70)
              replace Pt_65 := Lib.hid (own_below Pt_65.out bt_70)
              replace Ot_39 := Lib.hid (own_below Ot_39.out bt_70)
              clear bt_70
              replace H := let_hid H
              obtain ⟨t_73, ht_73, H⟩ := H
              cases t_73 with
              | false =>
                replace H := ite_f H
                replace H := let_hid H
                obtain ⟨t_77, ht_77, H⟩ := H
                cases t_77 with
                | false =>
                  replace H := ite_f H
                  replace H := bind_hid H
                  obtain ⟨t_80, qt_80, H⟩ := H
                  go_wp2_with fail
                  go_at_call 6
                  refine (Go.Proofs.Ytbnpdaipgamgkaa.GlToPaperS.C (aList) A0 c0 _   (Lib.hid (Cells.below M0.out HBwt_70.out)) N0 qt_80).mono ?_
                  rintro e_t_80 wt_80 ⟨At_80, ct_80, rfl, ot_80, bt_80⟩
                  have Dt_80_t_10 := Lib.hid (apart_call ot_80 Ot_10.out)
                  have Dt_80_t_11a := Lib.hid (apart_call ot_80 Ot_11a.out)
                  have Dt_80_t_18 := Lib.hid (apart_call ot_80 Pt_46.out)
                  have Dt_80_t_21a := Lib.hid (apart_call ot_80 Pt_65.out)
                  have Dt_80_t_39 := Lib.hid (apart_call ot_80 Ot_39.out)
                  have Ot_80 := Lib.hid (own_lower ot_80 HBwt_70.out.size)
                  clear ot_80
                  have HBwt_80 := Lib.hid (Below.step HBwt_70.out bt_80)
                  replace Ot_10 := Lib.hid (own_below Ot_10.out bt_80)
                  replace Ot_11a := Lib.hid (own_below Ot_11a.out bt_80)
                  replace Pt_46 := Lib.hid (own_below Pt_46.out bt_80)
                  replace Pt_65 := Lib.hid (own_below Pt_65.out bt_80)
                  replace Ot_39 := Lib.hid (own_below Ot_39.out bt_80)
                  clear bt_80
                  replace H := bind2_hid H
                  obtain ⟨t_81a, t_81b, qt_81, H⟩ := H
                  go_wp2_with fail
                  go_at_call 7
                  refine (Go.Proofs.Ytbnpdaipgamgkaa.GiMarkNames.C (t_80) At_80 ct_80 _   (Lib.hid (own_cells Ot_80.out)) (Lib.hid (own_max Ot_80.out)) qt_81).mono ?_
                  rintro e_t_81 wt_81 ⟨At_81a, ct_81a, rfl, ot_81a, bt_81⟩
                  have Dt_81a_t_10 := Lib.hid (apart_call ot_81a Ot_10.out)
                  have Dt_81a_t_11a := Lib.hid (apart_call ot_81a Ot_11a.out)
                  have Dt_81a_t_18 := Lib.hid (apart_call ot_81a Pt_46.out)
                  have Dt_81a_t_21a := Lib.hid (apart_call ot_81a Pt_65.out)
                  have Dt_81a_t_39 := Lib.hid (apart_call ot_81a Ot_39.out)
                  have Dt_81a_t_80 := Lib.hid (apart_call ot_81a Ot_80.out)
                  have Ot_81a := Lib.hid (own_lower ot_81a HBwt_80.out.size)
                  clear ot_81a
                  have HBwt_81 := Lib.hid (Below.step HBwt_80.out bt_81)
                  replace Ot_10 := Lib.hid (own_below Ot_10.out bt_81)
                  replace Ot_11a := Lib.hid (own_below Ot_11a.out bt_81)
                  replace Pt_46 := Lib.hid (own_below Pt_46.out bt_81)
                  replace Pt_65 := Lib.hid (own_below Pt_65.out bt_81)
                  replace Ot_39 := Lib.hid (own_below Ot_39.out bt_81)
                  replace Ot_80 := Lib.hid (own_below Ot_80.out bt_81)
                  clear bt_81
                  replace H := bind_hid H
                  obtain ⟨t_89, qt_89, H⟩ := H
                  go_wp2_with fail
                  go_at_call 8
                  refine (Go.Proofs.Ytbnpdaipgamgkaa.GlEqStringS.C (t_81a) (t_11a) At_81a ct_81a At_11a ct_11a _   (Lib.hid (own_cells Ot_81a.out)) (Lib.hid (own_max Ot_81a.out)) (Lib.hid (own_cells Ot_11a.out)) (Lib.hid (own_max Ot_11a.out)) qt_89).mono ?_
                  rintro e_t_89 wt_89 ⟨rfl, bt_89⟩
                  have HBwt_89 := Lib.hid (Below.step HBwt_81.out bt_89)
                  replace Ot_10 := Lib.hid (own_below Ot_10.out bt_89)
                  replace Ot_11a := Lib.hid (own_below Ot_11a.out bt_89)
                  replace Pt_46 := Lib.hid (own_below Pt_46.out bt_89)
                  replace Pt_65 := Lib.hid (own_below Pt_65.out bt_89)
                  replace Ot_39 := Lib.hid (own_below Ot_39.out bt_89)
                  replace Ot_80 := Lib.hid (own_below Ot_80.out bt_89)
                  replace Ot_81a := Lib.hid (own_below Ot_81a.out bt_89)
                  clear bt_89
                  cases t_89 with
                  | false =>
                    replace H := let_hid H
                    obtain ⟨t_90, ht_90, H⟩ := H
                    obtain rfl : t_90 = true := ht_90.symm
                    replace H := join_hid H
                    replace H := ite_t H
                    replace H := app_hid H
                    replace H := ite_t H
                    obtain rfl := ret_hid H
                    go_wp2_with fail
                    go_ret
                    exact ⟨rfl, HBwt_89.out⟩
                  | true =>
                    replace H := let_hid H
                    obtain ⟨t_90, ht_90, H⟩ := H
                    obtain rfl : t_90 = false := ht_90.symm
                    replace H := join_hid H
                    replace H := ite_f H
                    replace H := let_hid H
                    obtain ⟨t_94, ht_94, H⟩ := H
                    replace H := app_hid H
                    cases t_94 with
                    | false =>
                      replace H := ite_f H
                      replace H := bind_hid H
                      obtain ⟨t_100, qt_100, H⟩ := H
                      go_wp2_with fail
                      go_at_call 12
                      refine (Go.Proofs.Ytbnpdaipgamgkaa.GlHeldStringS.C (lt_65) (1) At_21a ct_21a _   (Lib.hid (own_cells Pt_65.out)) (Lib.hid (own_max Pt_65.out)) qt_100).mono ?_
                      rintro e_t_100 wt_100 ⟨rfl, bt_100⟩
                      have HBwt_100 := Lib.hid (Below.step HBwt_89.out bt_100)
                      replace Ot_10 := Lib.hid (own_below Ot_10.out bt_100)
                      replace Ot_11a := Lib.hid (own_below Ot_11a.out bt_100)
                      replace Pt_46 := Lib.hid (own_below Pt_46.out bt_100)
                      replace Pt_65 := Lib.hid (own_below Pt_65.out bt_100)
                      replace Ot_39 := Lib.hid (own_below Ot_39.out bt_100)
                      replace Ot_80 := Lib.hid (own_below Ot_80.out bt_100)
                      replace Ot_81a := Lib.hid (own_below Ot_81a.out bt_100)
                      clear bt_100
                      replace H := let_hid H
                      obtain ⟨t_103, ht_103, H⟩ := H
                      cases t_103 with
                      | false =>
                        replace H := ite_f H
                        replace H := let_hid H
                        obtain ⟨t_107, ht_107, H⟩ := H
                        cases t_107 with
                        | false =>
                          replace H := ite_f H
                          obtain rfl := ret_hid H
                          go_wp2_with fail
                          go_ret
                          exact ⟨rfl, HBwt_100.out⟩
                        | true =>
                          replace H := ite_t H
                          obtain rfl := ret_hid H
                          go_wp2_with fail
                          go_ret
                          exact ⟨rfl, HBwt_100.out⟩
                      | true =>
                        replace H := ite_t H
                        obtain rfl := ret_hid H
                        go_wp2_with fail
                        go_ret
                        exact ⟨rfl, HBwt_100.out⟩
                    | true =>
                      replace H := ite_t H
                      obtain rfl := ret_hid H
                      go_wp2_with fail
                      go_ret
                      exact ⟨rfl, HBwt_89.out⟩
                | true =>
                  replace H := ite_t H
                  obtain rfl := ret_hid H
                  go_wp2_with fail
                  go_ret
                  exact ⟨rfl, HBwt_70.out⟩
              | true =>
                replace H := ite_t H
                obtain rfl := ret_hid H
                go_wp2_with fail
                go_ret
                exact ⟨rfl, HBwt_70.out⟩
          | true =>
            replace H := ite_t H
            replace H := app_hid H
            replace H := join_hid H
            replace H := ite_t H
            replace H := app_hid H
            replace H := ite_t H
            obtain rfl := ret_hid H
            go_wp2_with fail
            go_ret
            exact ⟨rfl, HBwt_46.out⟩
      | true =>
        replace H := ite_t H
        obtain rfl := ret_hid H
        go_wp2_with fail
        go_ret
        exact ⟨rfl, HBwt_29.out⟩
  | true =>
    replace H := ite_t H
    obtain rfl := ret_hid H
    go_wp2_with fail
    go_ret
    exact ⟨rfl, HBwt_4.out⟩
end Go.Proofs.Ytbnpdaipgamgkaa.GlFnExactMarkNames

/- Plain words on stamps: what a stamp is, when one is valid, when a list of them is; the cells of a list of records. No condition. -/
namespace Go.Proofs.Ytbnpdaipgamgkaa.PlainStamp
set_option linter.unusedVariables false

/-- a number lies in a..b -/
def inB (x a b : Int) : Bool := decide (a ≤ x ∧ x ≤ b)
theorem inB_yes {x a b : Int} (h1 : a ≤ x) (h2 : x ≤ b) : inB x a b = true := by unfold inB; exact decide_eq_true ⟨h1, h2⟩
theorem inB_of {x a b : Int} (h : inB x a b = true) : a ≤ x ∧ x ≤ b := by unfold inB at h; exact of_decide_eq_true h
theorem inB_no {x a b : Int} (h : x < a ∨ b < x) : inB x a b = false := by unfold inB; exact decide_eq_false (by omega)

structure St where
  id : Int
  face : Int
  color : Int
  year : Int
deriving DecidableEq

def St.cells (s : St) : List Value := [.int .i64 s.id, .int .i64 s.face, .int .i64 s.color, .int .i64 s.year]
def St.val (s : St) : Value := .agg #[.int .i64 s.id, .int .i64 s.face, .int .i64 s.color, .int .i64 s.year]
/-- each field fits an int -/
def St.fits (s : St) : Prop := (Lit.int .i64 s.id).wf = true ∧ (Lit.int .i64 s.face).wf = true ∧ (Lit.int .i64 s.color).wf = true ∧ (Lit.int .i64 s.year).wf = true

def okSt (s : St) : Bool := inB s.id 1 999 && inB s.face 0 9999 && inB s.color 0 99 && inB s.year 1840 2100
theorem okSt_yes {s : St} (h : okSt s = true) : (1 ≤ s.id ∧ s.id ≤ 999) ∧ (0 ≤ s.face ∧ s.face ≤ 9999) ∧ (0 ≤ s.color ∧ s.color ≤ 99) ∧ (1840 ≤ s.year ∧ s.year ≤ 2100) := by
  unfold okSt at h
  simp only [Bool.and_eq_true] at h
  exact ⟨inB_of h.1.1.1, inB_of h.1.1.2, inB_of h.1.2, inB_of h.2⟩

/-- the stamp at k is valid, and its id is above the one ahead of it -/
def okAt (l : List St) (k : Nat) : Bool :=
  match l[k]? with
  | none => true
  | some s => okSt s && (decide (k = 0) || (match l[k-1]? with | none => true | some r => decide (r.id < s.id)))
def okUp (l : List St) (k : Nat) : Bool := (List.range k).all (okAt l)
theorem okUp_zero (l : List St) : okUp l 0 = true := by simp [okUp]
theorem okUp_succ (l : List St) (k : Nat) : okUp l (k + 1) = (okUp l k && okAt l k) := by simp [okUp, List.range_succ, List.all_append]
theorem okUp_not {l : List St} {k n : Nat} (h : okAt l k = false) (hk : k < n) : okUp l n = false := by
  unfold okUp
  rw [Bool.eq_false_iff]
  intro hall
  have := List.all_eq_true.1 hall k (List.mem_range.2 hk)
  rw [h] at this; exact absurd this (by simp)
/-- a list of at most twelve valid stamps with rising ids -/
def okSts (l : List St) : Bool := decide (l.length ≤ 12) && okUp l l.length
theorem okAt_of {l : List St} {k : Nat} {s : St} (hs : l[k]? = some s) (h : okAt l k = true) : okSt s = true ∧ ∀ r, 0 < k → l[k-1]? = some r → r.id < s.id := by
  unfold okAt at h
  rw [hs] at h
  simp only [Bool.and_eq_true, Bool.or_eq_true, decide_eq_true_eq] at h
  refine ⟨h.1, fun r hk hr => ?_⟩
  rcases h.2 with h0 | h0
  · omega
  · rw [hr] at h0; simpa using h0
theorem okSts_len {l : List St} (h : okSts l = true) : l.length ≤ 12 := by unfold okSts at h; simp only [Bool.and_eq_true, decide_eq_true_eq] at h; exact h.1
theorem okSts_at {l : List St} (h : okSts l = true) {k : Nat} {s : St} (hs : l[k]? = some s) : okSt s = true ∧ ∀ r, 0 < k → l[k-1]? = some r → r.id < s.id := by
  unfold okSts at h
  simp only [Bool.and_eq_true, decide_eq_true_eq] at h
  exact okAt_of hs (List.all_eq_true.1 h.2 k (List.mem_range.2 (List.getElem?_eq_some_iff.1 hs).1))
theorem okSts_mem {l : List St} (h : okSts l = true) {s : St} (hs : s ∈ l) : okSt s = true := by
  obtain ⟨k, hk⟩ := List.getElem?_of_mem hs
  exact (okSts_at h hk).1

/-- the cells of a list of stamps, one after the other -/
def flat (l : List St) : List Value := l.flatMap St.cells
theorem flat_nil : flat [] = [] := rfl
theorem flat_cons (s : St) (l : List St) : flat (s :: l) = s.cells ++ flat l := by simp [flat]
theorem flat_len (l : List St) : (flat l).length = l.length * 4 := by
  induction l with
  | nil => rfl
  | cons s l ih => rw [flat_cons, List.length_append, ih]; simp [St.cells]; omega
theorem flat_at : ∀ (l : List St) (k : Nat) (s : St), l[k]? = some s → ∀ j, j < 4 → (flat l)[k * 4 + j]? = s.cells[j]?
  | [], k, s, h, _, _ => by simp at h
  | r :: l, 0, s, h, j, hj => by
    obtain rfl : r = s := by simpa using h
    rw [flat_cons, List.getElem?_append_left (by simp [St.cells]; omega)]; simp
  | r :: l, k + 1, s, h, j, hj => by
    rw [flat_cons, List.getElem?_append_right (by simp [St.cells]; omega), show (k + 1) * 4 + j - r.cells.length = k * 4 + j by simp [St.cells]; omega]
    exact flat_at l k s (by simpa using h) j hj
end Go.Proofs.Ytbnpdaipgamgkaa.PlainStamp

/- Words for reckoning with plain functions; within and l1In. No condition. -/
namespace Go.Proofs.Ytbnpdaipgamgkaa.QBase
set_option linter.unusedVariables false
set_option linter.unusedSimpArgs false
open Go.RowKit
open Go.Proofs.Ytbnpdaipgamgkaa.GoP Go.Proofs.Ytbnpdaipgamgkaa.PlainStamp

theorem iteK_if {ρ : Type} (c : Bool) (a b : Option ρ) : iteK c a b = if c = true then a else b := by cases c <;> rfl
theorem bind2_some {α β ρ : Type} (a : α) (b : β) (f : α → β → Option ρ) : bind2 (some (a, b)) f = f a b := rfl
theorem bind3_some {α β γ ρ : Type} (a : α) (b : β) (c : γ) (f : α → β → γ → Option ρ) : bind3 (some (a, b, c)) f = f a b c := rfl
theorem unp2_mk {α β ρ : Type} (a : α) (b : β) (f : α → β → Option ρ) : unp2 (a, b) f = f a b := rfl
theorem unp3_mk {α β γ ρ : Type} (a : α) (b : β) (c : γ) (f : α → β → γ → Option ρ) : unp3 (a, b, c) f = f a b c := rfl
theorem guardK_pos {ρ : Type} {p : Prop} [Decidable p] {a : Option ρ} (h : p) : guardK p a = a := if_pos h
theorem cut2 {α β : Type} {x : Option (α × β)} {p : α × β} (h : x = some p) : x = some (p.1, p.2) := h
theorem cut3 {α β γ : Type} {x : Option (α × β × γ)} {p : α × β × γ} (h : x = some p) : x = some (p.1, p.2.1, p.2.2) := h
theorem within_eq (n a b : Int) : GiWithin.P n a b = some (inB n a b) := by
  simp only [GiWithin.P, letK, joinK, appK, iteK_if, inB]
  by_cases h1 : a ≤ n <;> by_cases h2 : n ≤ b <;> simp [h1, h2]
theorem l1In_eq (n a b : Int) : GsL1In.P n a b = some (inB n a b) := by
  simp only [GsL1In.P, letK, joinK, appK, iteK_if, inB]
  by_cases h1 : a ≤ n <;> by_cases h2 : n ≤ b <;> simp [h1, h2]
end Go.Proofs.Ytbnpdaipgamgkaa.QBase

/- Reckoning with the loops of plain functions; lists of valid records with rising ids. No condition. -/
namespace Go.Proofs.Ytbnpdaipgamgkaa.QLoop
set_option linter.unusedVariables false
open Go.RowKit
open Go.Proofs.Ytbnpdaipgamgkaa.GoP Go.Proofs.Ytbnpdaipgamgkaa.QBase

theorem cnt_ex {σ ρ : Type} {f : Nat → σ → (σ → Option ρ) → (σ → Option ρ) → Option ρ} {fin : σ → Option ρ} {Q : ρ → Prop} {n : Nat} (I : Nat → σ → Prop)
    (step : ∀ k s nx, k < n → I k s → (∀ s', I (k + 1) s' → ∃ r, nx s' = some r ∧ Q r) → ∃ r, f k s nx fin = some r ∧ Q r) (done : ∀ s, I n s → ∃ r, fin s = some r ∧ Q r) :
    ∀ m k s, k + m = n → I k s → ∃ r, cntK f m k s fin = some r ∧ Q r := by
  intro m
  induction m with
  | zero => intro k s hk hI; obtain rfl : k = n := by omega
            exact done s hI
  | succ m ih => intro k s hk hI; exact step k s _ (by omega) hI (fun s' h' => ih (k + 1) s' (by omega) h')
theorem cnt_is {σ ρ : Type} {f : Nat → σ → (σ → Option ρ) → (σ → Option ρ) → Option ρ} {fin : σ → Option ρ} {n : Nat} (r : ρ) (I : Nat → σ → Prop)
    (step : ∀ k s nx, k < n → I k s → (∀ s', I (k + 1) s' → nx s' = some r) → f k s nx fin = some r) (done : ∀ s, I n s → fin s = some r) (s : σ) (h0 : I 0 s) : cntK f n 0 s fin = some r := by
  obtain ⟨r', h, rfl⟩ := cnt_ex (Q := fun x => x = r) I (fun k s nx hk hI hn => ⟨r, step k s nx hk hI (fun s' h' => by obtain ⟨_, h, rfl⟩ := hn s' h'; exact h), rfl⟩) (fun s h => ⟨r, done s h, rfl⟩) n 0 s (by omega) h0
  exact h
theorem at_lt {α : Type} {l : List α} {k : Nat} (h : k < l.length) : ∃ x, l[k]? = some x ∧ idx l (k : Int) = some x := ⟨l[k], List.getElem?_eq_getElem h, by rw [idx_nat, List.getElem?_eq_getElem h]⟩
theorem idx_pred {α : Type} {l : List α} {k : Nat} {x : α} (hk : 0 < k) (hb : k ≤ 9223372036854775807) (h : l[k - 1]? = some x) : idx l (IntKind.i64.wrap ((k : Int) - 1)) = some x := by
  rw [IntWalk.i64_in _ (by omega), show ((k : Int) - 1) = ((k - 1 : Nat) : Int) by omega, idx_nat, h]
theorem take_next {α : Type} {l : List α} {k : Nat} {x : α} (h : l[k]? = some x) : l.take (k + 1) = l.take k ++ [x] := by
  obtain ⟨hk, e⟩ := List.getElem?_eq_some_iff.1 h
  rw [List.take_succ_eq_append_getElem hk, e]
theorem all_next {α : Type} {p : α → Bool} {l : List α} {k : Nat} {x : α} (h : l[k]? = some x) : (l.take (k + 1)).all p = ((l.take k).all p && p x) := by
  rw [take_next h]; simp
theorem not_all {α : Type} {p : α → Bool} {l : List α} {k : Nat} {x : α} (h : l[k]? = some x) (hp : p x = false) : l.all p = false := by
  rw [Bool.eq_false_iff]
  intro ha
  have := List.all_eq_true.1 ha x (List.mem_of_getElem? h)
  rw [hp] at this; exact absurd this (by simp)
theorem wrap_in {x : Int} (h1 : -9223372036854775808 ≤ x) (h2 : x ≤ 9223372036854775807) : IntKind.i64.wrap x = x := IntWalk.i64_in _ (by omega)

/-- valid, and above the one ahead of it -/
def upAt {α : Type} (ok : α → Bool) (id : α → Int) (l : List α) (k : Nat) : Bool :=
  match l[k]? with
  | none => true
  | some s => ok s && (decide (k = 0) || (match l[k-1]? with | none => true | some r => decide (id r < id s)))
def upTo {α : Type} (ok : α → Bool) (id : α → Int) (l : List α) (k : Nat) : Bool := (List.range k).all (upAt ok id l)
theorem upTo_zero {α : Type} (ok : α → Bool) (id : α → Int) (l : List α) : upTo ok id l 0 = true := rfl
theorem upTo_succ {α : Type} (ok : α → Bool) (id : α → Int) (l : List α) (k : Nat) : upTo ok id l (k + 1) = (upTo ok id l k && upAt ok id l k) := by simp [upTo, List.range_succ, List.all_append]
theorem upTo_not {α : Type} {ok : α → Bool} {id : α → Int} {l : List α} {k n : Nat} (h : upAt ok id l k = false) (hk : k < n) : upTo ok id l n = false := by
  unfold upTo
  rw [Bool.eq_false_iff]
  intro ha
  have := List.all_eq_true.1 ha k (List.mem_range.2 hk)
  rw [h] at this; exact absurd this (by simp)
/-- a list of at most m valid records with rising ids -/
def upL {α : Type} (m : Nat) (ok : α → Bool) (id : α → Int) (l : List α) : Bool := decide (l.length ≤ m) && upTo ok id l l.length
theorem upAt_bad {α : Type} {ok : α → Bool} {id : α → Int} {l : List α} {k : Nat} {s : α} (hs : l[k]? = some s) (h : ok s = false) : upAt ok id l k = false := by unfold upAt; rw [hs]; simp [h]
theorem upAt_first {α : Type} {ok : α → Bool} {id : α → Int} {l : List α} {s : α} (hs : l[0]? = some s) (h : ok s = true) : upAt ok id l 0 = true := by unfold upAt; rw [hs]; simp [h]
theorem upAt_next {α : Type} {ok : α → Bool} {id : α → Int} {l : List α} {k : Nat} {s r : α} (hs : l[k]? = some s) (hr : l[k-1]? = some r) (hk : 0 < k) (h : ok s = true) : upAt ok id l k = decide (id r < id s) := by
  unfold upAt; rw [hs]; simp only [hr, h, Bool.true_and, decide_eq_false (show ¬ k = 0 by omega), Bool.false_or]
theorem upL_len {α : Type} {m : Nat} {ok : α → Bool} {id : α → Int} {l : List α} (h : upL m ok id l = true) : l.length ≤ m := by unfold upL at h; simp only [Bool.and_eq_true, decide_eq_true_eq] at h; exact h.1
theorem upL_ok {α : Type} {m : Nat} {ok : α → Bool} {id : α → Int} {l : List α} (h : upL m ok id l = true) {k : Nat} {s : α} (hs : l[k]? = some s) : ok s = true := by
  unfold upL at h
  simp only [Bool.and_eq_true, decide_eq_true_eq] at h
  have := List.all_eq_true.1 h.2 k (List.mem_range.2 (List.getElem?_eq_some_iff.1 hs).1)
  unfold upAt at this
  rw [hs] at this
  simp only [Bool.and_eq_true] at this
  exact this.1
theorem upL_mem {α : Type} {m : Nat} {ok : α → Bool} {id : α → Int} {l : List α} (h : upL m ok id l = true) {s : α} (hs : s ∈ l) : ok s = true := by
  obtain ⟨k, hk⟩ := List.getElem?_of_mem hs
  exact upL_ok h hk
/-- a loop that goes through a list of records and stops with 'false' at the first that is bad -/
theorem up_loop {α : Type} {ok : α → Bool} {id : α → Int} {l : List α} {R : Type} {no : R} {f : Nat → Unit → (Unit → Option R) → (Unit → Option R) → Option R} {fin : Unit → Option R}
    (step : ∀ k nx s, l[k]? = some s → (ok s = false → f k () nx fin = some no) ∧ (ok s = true → (k = 0 → f k () nx fin = nx ()) ∧ (0 < k → ∀ r, l[k-1]? = some r → (id r < id s → f k () nx fin = nx ()) ∧ (id s ≤ id r → f k () nx fin = some no)))) :
    cntK f l.length 0 () fin = if upTo ok id l l.length then fin () else some no := by
  have key : ∀ m k, k + m = l.length → upTo ok id l k = true → cntK f m k () fin = if upTo ok id l l.length then fin () else some no := by
    intro m
    induction m with
    | zero => intro k hk hu; obtain rfl : k = l.length := by omega
              rw [hu]; rfl
    | succ m ih =>
      intro k hk hu
      have hlt : k < l.length := by omega
      obtain ⟨s, hs, _⟩ := at_lt hlt
      obtain ⟨h1, h2⟩ := step k (fun s' => cntK f m (k + 1) s' fin) s hs
      show f k () _ fin = _
      cases hok : ok s with
      | false => rw [h1 hok, upTo_not (upAt_bad hs hok) hlt]; rfl
      | true =>
        obtain ⟨h3, h4⟩ := h2 hok
        by_cases hk0 : k = 0
        · rw [h3 hk0]
          subst hk0
          exact ih 1 (by omega) (by rw [upTo_succ, hu, upAt_first hs hok]; rfl)
        · obtain ⟨r, hr, _⟩ := at_lt (l := l) (k := k - 1) (by omega)
          obtain ⟨h5, h6⟩ := h4 (by omega) r hr
          by_cases hlt2 : id r < id s
          · rw [h5 hlt2]
            exact ih (k + 1) (by omega) (by rw [upTo_succ, hu, upAt_next hs hr (by omega) hok]; simpa using hlt2)
          · rw [h6 (by omega), upTo_not (by rw [upAt_next hs hr (by omega) hok]; simpa using hlt2) hlt]; rfl
  exact key l.length 0 (by omega) (upTo_zero ok id l)
end Go.Proofs.Ytbnpdaipgamgkaa.QLoop

/- Lists of valid records in strictly rising order of any kind; texts in the order of their bytes. (QOrd) No condition but those of each theorem. -/
namespace Go.Proofs.Ytbnpdaipgamgkaa.QOrd
set_option linter.unusedVariables false
set_option linter.unusedSimpArgs false
open Go.RowKit
open Go.Proofs.Ytbnpdaipgamgkaa.GoP Go.Proofs.Ytbnpdaipgamgkaa.PlainStamp Go.Proofs.Ytbnpdaipgamgkaa.QBase Go.Proofs.Ytbnpdaipgamgkaa.QLoop

/-- texts in the order of their bytes -/
def bl (a b : ByteArray) : Bool := Op.bytesLess a.toList b.toList
theorem bl_self' : ∀ x, Op.bytesLess x x = false
  | [] => rfl
  | a :: x => by
    have h1 : ¬ a < a := fun k => by rw [UInt8.lt_iff_toNat_lt] at k; omega
    simp [Op.bytesLess, h1, bl_self' x]
theorem bl_total' : ∀ x y, x ≠ y → Op.bytesLess x y = !(Op.bytesLess y x)
  | [], [], h => absurd rfl h
  | [], b :: y, _ => by simp [Op.bytesLess]
  | a :: x, [], _ => by simp [Op.bytesLess]
  | a :: x, b :: y, h => by
    by_cases hab : a = b
    · subst hab
      have h1 : ¬ a < a := fun k => by rw [UInt8.lt_iff_toNat_lt] at k; omega
      have := bl_total' x y (fun e => h (by rw [e]))
      simp [Op.bytesLess, h1, this]
    · have hne : a.toNat ≠ b.toNat := fun e => hab (UInt8.toNat_inj.1 e)
      by_cases hlt : a < b
      · have h2 : ¬ b < a := fun k => by rw [UInt8.lt_iff_toNat_lt] at k hlt; omega
        simp [Op.bytesLess, hlt, h2, Ne.symm hab]
      · have h2 : b < a := by rw [UInt8.lt_iff_toNat_lt] at hlt ⊢; omega
        simp [Op.bytesLess, hlt, h2, hab]
theorem bl_trans' : ∀ x y z, Op.bytesLess x y = true → Op.bytesLess y z = true → Op.bytesLess x z = true
  | [], _, [], h1, h2 => by rename_i y; cases y <;> simp [Op.bytesLess] at h1 h2
  | [], _, c :: z, _, _ => by simp [Op.bytesLess]
  | a :: x, [], _, h1, _ => by simp [Op.bytesLess] at h1
  | a :: x, b :: y, [], _, h2 => by simp [Op.bytesLess] at h2
  | a :: x, b :: y, c :: z, h1, h2 => by
    simp only [Op.bytesLess, Bool.or_eq_true, decide_eq_true_eq, Bool.and_eq_true, beq_iff_eq] at h1 h2 ⊢
    rcases h1 with h1 | ⟨rfl, h1⟩
    · rcases h2 with h2 | ⟨rfl, h2⟩
      · left; rw [UInt8.lt_iff_toNat_lt] at h1 h2 ⊢; omega
      · left; exact h1
    · rcases h2 with h2 | ⟨rfl, h2⟩
      · left; exact h2
      · right; exact ⟨rfl, bl_trans' x y z h1 h2⟩
theorem list_inj {a b : ByteArray} (h : a.toList = b.toList) : a = b := by
  rw [Lib.toList_data, Lib.toList_data] at h
  cases a; cases b; congr 1; exact Array.toList_inj.1 h
theorem bl_self (a : ByteArray) : bl a a = false := bl_self' _
theorem bl_total {a b : ByteArray} (h : a ≠ b) : bl a b = !(bl b a) := bl_total' _ _ (fun e => h (list_inj e))
theorem bl_trans {a b c : ByteArray} (h1 : bl a b = true) (h2 : bl b c = true) : bl a c = true := bl_trans' _ _ _ h1 h2
theorem bl_asymm {a b : ByteArray} (h : bl a b = true) : bl b a = false := by
  by_cases e : a = b
  · rw [e]; exact bl_self b
  · rw [bl_total e] at h; simpa using h
theorem bl_ne {a b : ByteArray} (h : bl a b = true) : a ≠ b := fun e => by rw [e, bl_self] at h; exact absurd h (by simp)
/-- 'not above', as the program asks it -/
theorem bl_le (a b : ByteArray) : (Op.bytesLess a.toList b.toList || a.toList == b.toList) = !(bl b a) := by
  by_cases e : a = b
  · subst e; rw [bl_self]; simp
  · have h1 : (a.toList == b.toList) = false := by rw [beq_eq_false_iff_ne]; exact fun h => e (list_inj h)
    rw [h1, Bool.or_false]; exact bl_total e
theorem bl_lt (a b : ByteArray) : Op.bytesLess a.toList b.toList = bl a b := rfl
theorem eq_list (a b : ByteArray) : (a.toList == b.toList) = decide (a = b) := by
  by_cases e : a = b
  · subst e; simp
  · rw [decide_eq_false e, beq_eq_false_iff_ne]; exact fun h => e (list_inj h)

/-- valid, and behind the one ahead of it -/
def riseAt {α : Type} (ok : α → Bool) (lt : α → α → Bool) (l : List α) (k : Nat) : Bool :=
  match l[k]? with
  | none => true
  | some s => ok s && (decide (k = 0) || (match l[k-1]? with | none => true | some r => lt r s))
def riseTo {α : Type} (ok : α → Bool) (lt : α → α → Bool) (l : List α) (k : Nat) : Bool := (List.range k).all (riseAt ok lt l)
theorem riseTo_zero {α : Type} (ok : α → Bool) (lt : α → α → Bool) (l : List α) : riseTo ok lt l 0 = true := rfl
theorem riseTo_succ {α : Type} (ok : α → Bool) (lt : α → α → Bool) (l : List α) (k : Nat) : riseTo ok lt l (k + 1) = (riseTo ok lt l k && riseAt ok lt l k) := by simp [riseTo, List.range_succ, List.all_append]
theorem riseTo_not {α : Type} {ok : α → Bool} {lt : α → α → Bool} {l : List α} {k n : Nat} (h : riseAt ok lt l k = false) (hk : k < n) : riseTo ok lt l n = false := by
  unfold riseTo
  rw [Bool.eq_false_iff]
  intro ha
  have := List.all_eq_true.1 ha k (List.mem_range.2 hk)
  rw [h] at this; exact absurd this (by simp)
def riseL {α : Type} (m : Nat) (ok : α → Bool) (lt : α → α → Bool) (l : List α) : Bool := decide (l.length ≤ m) && riseTo ok lt l l.length
theorem riseAt_bad {α : Type} {ok : α → Bool} {lt : α → α → Bool} {l : List α} {k : Nat} {s : α} (hs : l[k]? = some s) (h : ok s = false) : riseAt ok lt l k = false := by unfold riseAt; rw [hs]; simp [h]
theorem riseAt_first {α : Type} {ok : α → Bool} {lt : α → α → Bool} {l : List α} {s : α} (hs : l[0]? = some s) (h : ok s = true) : riseAt ok lt l 0 = true := by unfold riseAt; rw [hs]; simp [h]
theorem riseAt_next {α : Type} {ok : α → Bool} {lt : α → α → Bool} {l : List α} {k : Nat} {s r : α} (hs : l[k]? = some s) (hr : l[k-1]? = some r) (hk : 0 < k) (h : ok s = true) : riseAt ok lt l k = lt r s := by
  unfold riseAt; rw [hs]; simp only [hr, h, Bool.true_and, decide_eq_false (show ¬ k = 0 by omega), Bool.false_or]
theorem riseL_len {α : Type} {m : Nat} {ok : α → Bool} {lt : α → α → Bool} {l : List α} (h : riseL m ok lt l = true) : l.length ≤ m := by unfold riseL at h; simp only [Bool.and_eq_true, decide_eq_true_eq] at h; exact h.1
theorem riseTo_at {α : Type} {ok : α → Bool} {lt : α → α → Bool} {l : List α} {n : Nat} (h : riseTo ok lt l n = true) {k : Nat} (hk : k < n) : riseAt ok lt l k = true := List.all_eq_true.1 h k (List.mem_range.2 hk)
theorem riseL_ok {α : Type} {m : Nat} {ok : α → Bool} {lt : α → α → Bool} {l : List α} (h : riseL m ok lt l = true) {k : Nat} {s : α} (hs : l[k]? = some s) : ok s = true := by
  unfold riseL at h
  simp only [Bool.and_eq_true, decide_eq_true_eq] at h
  have := riseTo_at h.2 (List.getElem?_eq_some_iff.1 hs).1
  unfold riseAt at this
  rw [hs] at this
  simp only [Bool.and_eq_true] at this
  exact this.1
theorem riseL_mem {α : Type} {m : Nat} {ok : α → Bool} {lt : α → α → Bool} {l : List α} (h : riseL m ok lt l = true) {s : α} (hs : s ∈ l) : ok s = true := by
  obtain ⟨k, hk⟩ := List.getElem?_of_mem hs
  exact riseL_ok h hk
theorem riseL_step {α : Type} {m : Nat} {ok : α → Bool} {lt : α → α → Bool} {l : List α} (h : riseL m ok lt l = true) {k : Nat} {x y : α} (hx : l[k]? = some x) (hy : l[k + 1]? = some y) : lt x y = true := by
  unfold riseL at h
  simp only [Bool.and_eq_true, decide_eq_true_eq] at h
  have := riseTo_at h.2 (List.getElem?_eq_some_iff.1 hy).1
  unfold riseAt at this
  rw [hy] at this
  simp only [Nat.add_sub_cancel, hx, Bool.and_eq_true, Bool.or_eq_true, decide_eq_true_eq] at this
  rcases this.2 with h0 | h0
  · omega
  · exact h0
theorem riseL_lt {α : Type} {m : Nat} {ok : α → Bool} {lt : α → α → Bool} (tr : ∀ a b c, lt a b = true → lt b c = true → lt a c = true) {l : List α} (h : riseL m ok lt l = true) {i j : Nat} {x y : α} (hij : i < j) (hx : l[i]? = some x) (hy : l[j]? = some y) : lt x y = true := by
  obtain ⟨d, rfl⟩ : ∃ d, j = i + d + 1 := ⟨j - i - 1, by omega⟩
  clear hij
  induction d generalizing y with
  | zero => exact riseL_step h hx hy
  | succ d ih =>
    obtain ⟨z, hz, _⟩ := at_lt (l := l) (k := i + d + 1) (by have := (List.getElem?_eq_some_iff.1 hy).1; omega)
    exact tr _ _ _ (ih hz) (riseL_step (k := i + d + 1) h hz (by rw [← hy]; rfl))
/-- a loop that goes through a list of records and stops with 'no' at the first that is bad -/
theorem rise_loop {α : Type} {ok : α → Bool} {lt : α → α → Bool} {l : List α} {R : Type} {no : R} {f : Nat → Unit → (Unit → Option R) → (Unit → Option R) → Option R} {fin : Unit → Option R}
    (step : ∀ k nx s, l[k]? = some s → (ok s = false → f k () nx fin = some no) ∧ (ok s = true → (k = 0 → f k () nx fin = nx ()) ∧ (0 < k → ∀ r, l[k-1]? = some r → (lt r s = true → f k () nx fin = nx ()) ∧ (lt r s = false → f k () nx fin = some no)))) :
    cntK f l.length 0 () fin = if riseTo ok lt l l.length then fin () else some no := by
  have key : ∀ m k, k + m = l.length → riseTo ok lt l k = true → cntK f m k () fin = if riseTo ok lt l l.length then fin () else some no := by
    intro m
    induction m with
    | zero => intro k hk hu; obtain rfl : k = l.length := by omega
              rw [hu]; rfl
    | succ m ih =>
      intro k hk hu
      have hlt : k < l.length := by omega
      obtain ⟨s, hs, _⟩ := at_lt hlt
      obtain ⟨h1, h2⟩ := step k (fun s' => cntK f m (k + 1) s' fin) s hs
      show f k () _ fin = _
      cases hok : ok s with
      | false => rw [h1 hok, riseTo_not (riseAt_bad hs hok) hlt]; rfl
      | true =>
        obtain ⟨h3, h4⟩ := h2 hok
        by_cases hk0 : k = 0
        · rw [h3 hk0]
          subst hk0
          exact ih 1 (by omega) (by rw [riseTo_succ, hu, riseAt_first hs hok]; rfl)
        · obtain ⟨r, hr, _⟩ := at_lt (l := l) (k := k - 1) (by omega)
          obtain ⟨h5, h6⟩ := h4 (by omega) r hr
          cases hl : lt r s with
          | true =>
            rw [h5 hl]
            exact ih (k + 1) (by omega) (by rw [riseTo_succ, hu, riseAt_next hs hr (by omega) hok, hl]; rfl)
          | false => rw [h6 hl, riseTo_not (by rw [riseAt_next hs hr (by omega) hok, hl]) hlt]; rfl
  exact key l.length 0 (by omega) (riseTo_zero ok lt l)
end Go.Proofs.Ytbnpdaipgamgkaa.QOrd

/- Watermarks of papers: the plain functions of the program and of the reference agree, and the law answers true. (QTexts) No condition but those of each theorem. -/
namespace Go.Proofs.Ytbnpdaipgamgkaa.QTexts
set_option linter.unusedVariables false
set_option linter.unusedSimpArgs false
open Go.RowKit
open Go.Proofs.Ytbnpdaipgamgkaa.GoP Go.Proofs.Ytbnpdaipgamgkaa.PlainStamp Go.Proofs.Ytbnpdaipgamgkaa.QBase Go.Proofs.Ytbnpdaipgamgkaa.QOrd Go.Proofs.Ytbnpdaipgamgkaa.QLoop

theorem bl_iff (a b : ByteArray) : bl a b = decide (a.data.toList < b.data.toList) := by
  unfold bl; rw [bytesLess_eq, ByteArray.toList_eq, ByteArray.toList_eq]
theorem list_le (x y : List UInt8) : decide (x ≤ y) = !(Op.bytesLess y x) := by
  rw [bytesLess_eq, Bool.eq_iff_iff]
  simp [List.not_lt]
/-- in strictly rising order -/
def strict (l : List ByteArray) : Prop := List.Pairwise (fun a b => bl a b = true) l
theorem bl_asymm {a b : ByteArray} (h : bl a b = true) : bl b a = false := by
  cases hb : bl b a with
  | false => rfl
  | true => have := bl_trans h hb; rw [bl_self] at this; exact absurd this (by simp)
/-- two strictly rising lists of the same texts are the same -/
theorem strict_ext : ∀ {l m : List ByteArray}, strict l → strict m → (∀ x, x ∈ l ↔ x ∈ m) → l = m := by
  intro l
  induction l with
  | nil =>
    intro m _ _ h
    cases m with
    | nil => rfl
    | cons y m => exact absurd ((h y).2 (by simp)) (by simp)
  | cons x l ih =>
    intro m hl hm h
    cases m with
    | nil => exact absurd ((h x).1 (by simp)) (by simp)
    | cons y m =>
      unfold strict at hl hm
      rw [List.pairwise_cons] at hl hm
      have hxy : x = y := by
        rcases List.mem_cons.1 ((h x).1 (by simp)) with e | hx
        · exact e
        · rcases List.mem_cons.1 ((h y).2 (by simp)) with e | hy
          · exact e.symm
          · have h1 := hm.1 x hx
            have h2 := hl.1 y hy
            rw [bl_asymm h1] at h2; exact absurd h2 (by simp)
      subst hxy
      have hnx : ∀ {k : List ByteArray}, (∀ z ∈ k, bl x z = true) → ¬ x ∈ k := by
        intro k hk hx
        have := hk x hx
        rw [bl_self] at this; exact absurd this (by simp)
      rw [ih hl.2 hm.2 (fun z => ?_)]
      constructor
      · intro hz
        rcases List.mem_cons.1 ((h z).1 (by simp [hz])) with e | h1
        · subst e; exact absurd hz (hnx hl.1)
        · exact h1
      · intro hz
        rcases List.mem_cons.1 ((h z).2 (by simp [hz])) with e | h1
        · subst e; exact absurd hz (hnx hm.1)
        · exact h1
theorem comp_keyS (l : List (List UInt8)) (hs : List.Pairwise (fun a b => Op.bytesLess b a = false) l) : ∀ m, m ≤ l.length → List.Pairwise (fun a b => Op.bytesLess a b = true) (Lib.compactUpTo l.toArray m) ∧ (∀ x, x ∈ Lib.compactUpTo l.toArray m ↔ ∃ j, j < m ∧ l[j]? = some x) := by
  intro m
  induction m with
  | zero => intro _; simp [Lib.compactUpTo]
  | succ m ih =>
    intro hm
    obtain ⟨h1, h2⟩ := ih (by omega)
    have hle : ∀ {i j : Nat} {x y : List UInt8}, i ≤ j → l[i]? = some x → l[j]? = some y → Op.bytesLess y x = false := by
      intro i j x y hij hx hy
      obtain ⟨a1, a2⟩ := List.getElem?_eq_some_iff.1 hx
      obtain ⟨b1, b2⟩ := List.getElem?_eq_some_iff.1 hy
      by_cases he : i = j
      · subst he; rw [hx] at hy; obtain rfl := Option.some.inj hy; exact bl_self' _
      · have := List.pairwise_iff_getElem.1 hs i j a1 b1 (by omega)
        rw [a2, b2] at this; exact this
    have hx : l[m]? = some l[m] := List.getElem?_eq_getElem (by omega)
    have g : l.toArray[m]! = l[m] := by simp [hx]
    rw [Lib.compactUpTo_succ]
    by_cases hk : Lib.keeps l.toArray m = true
    · rw [if_pos hk, g]
      have hlt : ∀ x, x ∈ Lib.compactUpTo l.toArray m → Op.bytesLess x l[m] = true := by
        intro x hxm
        obtain ⟨j, hj, hjx⟩ := (h2 x).1 hxm
        have hp : m - 1 < l.length := by omega
        have h3 := hle (i := j) (j := m - 1) (by omega) hjx (List.getElem?_eq_getElem hp)
        have h4 := hle (i := m - 1) (j := m) (by omega) (List.getElem?_eq_getElem hp) hx
        have h5 : l[m-1] ≠ l[m] := by
          unfold Lib.keeps at hk
          rw [decide_eq_true_eq] at hk
          rcases hk with h0 | h0
          · omega
          · rw [g] at h0
            have : l.toArray[m-1]! = l[m-1] := by simp [List.getElem?_eq_getElem hp]
            rw [this] at h0; exact fun e => h0 e.symm
        have h6 : Op.bytesLess l[m-1] l[m] = true := by rw [bl_total' _ _ h5, h4]; rfl
        by_cases e : x = l[m-1]
        · rw [e]; exact h6
        · exact bl_trans' _ _ _ (by rw [bl_total' _ _ e, h3]; rfl) h6
      refine ⟨List.pairwise_append.2 ⟨h1, by simp, fun a ha b hb => by simp at hb; subst hb; exact hlt a ha⟩, fun x => ?_⟩
      rw [List.mem_append, h2, List.mem_singleton]
      constructor
      · rintro (⟨j, hj, hjx⟩ | rfl)
        · exact ⟨j, by omega, hjx⟩
        · exact ⟨m, by omega, hx⟩
      · rintro ⟨j, hj, hjx⟩
        by_cases he : j = m
        · subst he; rw [hx] at hjx; simp at hjx; exact Or.inr hjx.symm
        · exact Or.inl ⟨j, by omega, hjx⟩
    · rw [if_neg hk, List.append_nil]
      refine ⟨h1, fun x => ?_⟩
      rw [h2]
      constructor
      · rintro ⟨j, hj, hjx⟩; exact ⟨j, by omega, hjx⟩
      · rintro ⟨j, hj, hjx⟩
        by_cases he : j = m
        · subst he
          have hm0 : ¬ (j = 0) ∧ l.toArray[j]! = l.toArray[j-1]! := by
            unfold Lib.keeps at hk
            simpa using hk
          have hp : j - 1 < l.length := by omega
          have h6 : l.toArray[j-1]! = l[j-1] := by simp [List.getElem?_eq_getElem hp]
          rw [hx] at hjx
          refine ⟨j - 1, by omega, ?_⟩
          rw [List.getElem?_eq_getElem hp, ← hjx, ← g, hm0.2, h6]
        · exact ⟨j, by omega, hjx⟩
/-- sorted, and each text once -/
def sorted (l : List ByteArray) : List ByteArray := GoS.unb (Lib.compact (GoS.bts (GoS.unb ((GoS.bts l).mergeSort fun x y => decide (x ≤ y)))))
theorem bts_unb (l : List (List UInt8)) : GoS.bts (GoS.unb l) = l := by
  unfold GoS.bts GoS.unb
  rw [List.map_map]
  have : ((fun x : ByteArray => x.data.toList) ∘ fun x : List UInt8 => (⟨x.toArray⟩ : ByteArray)) = id := by funext x; rfl
  rw [this, List.map_id]
theorem sorted_facts (l : List ByteArray) : strict (sorted l) ∧ (∀ x, x ∈ sorted l ↔ x ∈ l) ∧ (sorted l).length ≤ l.length := by
  unfold sorted
  rw [bts_unb]
  obtain ⟨ss, hss⟩ : ∃ ss, ((GoS.bts l).mergeSort fun x y => decide (x ≤ y)) = ss := ⟨_, rfl⟩
  have hlen : ss.length = l.length := by rw [← hss, List.length_mergeSort, GoS.bts_len]
  have hmem : ∀ x, x ∈ ss ↔ x ∈ GoS.bts l := fun x => by rw [← hss]; exact List.mem_mergeSort
  have hs : List.Pairwise (fun a b => Op.bytesLess b a = false) ss := by
    have h := List.pairwise_mergeSort (le := fun x y : List UInt8 => decide (x ≤ y)) (fun a b c h1 h2 => by
      rw [list_le] at h1 h2 ⊢
      simp only [Bool.not_eq_true'] at h1 h2 ⊢
      cases h3 : Op.bytesLess c a with
      | false => rfl
      | true =>
        by_cases e : b = c
        · subst e; rw [h3] at h1; exact absurd h1 (by simp)
        · have h4 : Op.bytesLess b c = true := by rw [bl_total' _ _ e, h2]; rfl
          have := bl_trans' _ _ _ h4 h3
          rw [this] at h1; exact absurd h1 (by simp)) (fun a b => by
      rw [list_le, list_le]
      by_cases e : a = b
      · subst e; rw [bl_self']; rfl
      · rw [bl_total' _ _ e]; cases Op.bytesLess b a <;> rfl) (GoS.bts l)
    rw [hss] at h
    exact h.imp (fun h => by rw [list_le] at h; simpa using h)
  rw [hss]
  obtain ⟨k1, k2⟩ := comp_keyS ss hs ss.length (Nat.le_refl _)
  refine ⟨?_, fun x => ?_, ?_⟩
  · unfold strict GoS.unb
    rw [List.pairwise_map]
    exact k1.imp (fun {a b} h => by unfold bl; rw [ByteArray.toList_eq, ByteArray.toList_eq]; exact h)
  · unfold GoS.unb
    rw [List.mem_map]
    constructor
    · rintro ⟨y, hy, rfl⟩
      obtain ⟨j, _, hj⟩ := (k2 y).1 hy
      have h3 := (hmem y).1 (List.mem_of_getElem? hj)
      unfold GoS.bts at h3
      obtain ⟨z, hz, rfl⟩ := List.mem_map.1 h3
      exact hz
    · intro hx
      have h3 : x.data.toList ∈ ss := (hmem _).2 (List.mem_map.2 ⟨x, hx, rfl⟩)
      obtain ⟨j, hj⟩ := List.getElem?_of_mem h3
      exact ⟨x.data.toList, (k2 _).2 ⟨j, (List.getElem?_eq_some_iff.1 hj).1, hj⟩, rfl⟩
  · rw [GoS.unb_len]
    have := Lib.compact_length_le ss
    omega
theorem sort_comp {l : List ByteArray} (h : l.length ≤ 1000000) : (Option.bind (GxSlicesSortStringString.P l) fun m => GxSlicesCompactStringString.P m) = some (sorted l) := by
  unfold GxSlicesSortStringString.P
  rw [if_pos (by omega)]; rfl
end Go.Proofs.Ytbnpdaipgamgkaa.QTexts

/- One paper: the plain functions of the tests of a word and of a paper. No condition. -/
namespace Go.Proofs.Ytbnpdaipgamgkaa.QOnePaper
set_option linter.unusedVariables false
set_option linter.unusedSimpArgs false
open Go.RowKit
open Go.Proofs.Ytbnpdaipgamgkaa.GoP Go.Proofs.Ytbnpdaipgamgkaa.PlainStamp Go.Proofs.Ytbnpdaipgamgkaa.QBase Go.Proofs.Ytbnpdaipgamgkaa.QLoop Go.Proofs.Ytbnpdaipgamgkaa.PPaper

def small (b : UInt8) : Bool := decide (97 ≤ b.toNat ∧ b.toNat ≤ 122)
def wordB (s : ByteArray) : Bool := inB (s.size : Int) 1 10 && s.toList.all small
theorem size_list (s : ByteArray) : s.toList.length = s.size := by rw [Lib.toList_data]; rfl
theorem isLetter_eq (b : UInt8) : GiIsLetter.P (b.toNat : Int) = some (small b) := by
  simp only [GiIsLetter.P, letK, joinK, appK, iteK_if]
  unfold small
  by_cases h1 : 97 ≤ b.toNat
  · by_cases h2 : b.toNat ≤ 122
    · simp [h1, h2, show (97 : Int) ≤ b.toNat by omega, show (b.toNat : Int) ≤ 122 by omega]
    · simp [h1, h2, show (97 : Int) ≤ b.toNat by omega, show ¬ (b.toNat : Int) ≤ 122 by omega]
  · simp [h1, show ¬ (97 : Int) ≤ b.toNat by omega]
theorem isWord_eq (s : ByteArray) : GiIsWord.P s = some (wordB s) := by
  cases hb : inB (s.size : Int) 1 10 with
  | false => simp only [GiIsWord.P, within_eq, hb, Option.bind_some, letK, iteK_if, wordB]; rfl
  | true =>
    have h := inB_of hb
    simp only [GiIsWord.P, within_eq, hb, Option.bind_some, letK, iteK_if]
    rw [if_neg (by simp), guardK_pos (by omega)]
    refine cnt_is _ (fun k _ => (s.toList.take k).all small = true) ?_ ?_ () rfl
    · intro k u nx hk hI hn
      obtain ⟨y, hy, hi⟩ := at_lt (l := s.toList) (k := k) (by rw [size_list]; exact hk)
      simp only [GiIsWord.l0, hi, Option.bind_some, letK, joinK, appK, iteK_if, isLetter_eq]
      cases hs : small y with
      | false =>
        have : wordB s = false := by unfold wordB; rw [not_all hy hs, Bool.and_false]
        simp [this]
      | true => exact hn () (by rw [all_next hy, hI, hs]; rfl)
    · intro u hI
      rw [List.take_of_length_le (by rw [size_list]; exact Nat.le_refl _)] at hI
      simp [GiIsWord.e0, wordB, hb, hI]
theorem l2Word_eq (s : ByteArray) (hz : s.size ≤ 9223372036854775807) : GsL2Word.P s = some (wordB s) := by
  simp only [GsL2Word.P]
  rw [guardK_pos hz]
  refine cnt_is _ (fun k _ => (s.toList.take k).all small = true) ?_ ?_ () rfl
  · intro k u nx hk hI hn
    obtain ⟨y, hy, hi⟩ := at_lt (l := s.toList) (k := k) (by rw [size_list]; exact hk)
    simp only [GsL2Word.l0, hi, Option.bind_some, letK, joinK, appK, iteK_if]
    by_cases h1 : (y.toNat : Int) < 97
    · have : wordB s = false := by unfold wordB; rw [not_all hy (by unfold small; simp; omega), Bool.and_false]
      simp [h1, this]
    · by_cases h2 : (122 : Int) < (y.toNat : Int)
      · have : wordB s = false := by unfold wordB; rw [not_all hy (by unfold small; simp; omega), Bool.and_false]
        simp [h1, h2, this]
      · simp [h1, h2]
        exact hn () (by rw [all_next hy, hI]; unfold small; simp; omega)
  · intro u hI
    rw [List.take_of_length_le (by rw [size_list]; exact Nat.le_refl _)] at hI
    simp [GsL2Word.e0, wordB, l1In_eq, hI]
def markB (s : ByteArray) : Bool := s.toList.isEmpty || wordB s
def okPa (p : Paper) : Bool := inB p.id 1 99 && inB p.thick 1 300 && inB p.tint 0 9 && markB p.mark
theorem isPaper_eq (p : Paper) : GiIsPaper.P p = some (okPa p) := by
  obtain ⟨a, b, c, d, e⟩ := p
  simp only [GiIsPaper.P, unPaper, within_eq, GiIsMark.P, isWord_eq, Option.bind_some, letK, joinK, appK, iteK_if, okPa, markB]
  cases inB a 1 99 <;> cases inB b 1 300 <;> cases inB c 0 9 <;> cases d.toList.isEmpty <;> simp
theorem l3One_eq (p : Paper) (h : p.fits) : GsL3One.P p = some (okPa p) := by
  obtain ⟨a, b, c, d, e⟩ := p
  have hz : d.size ≤ 9223372036854775807 := h.2.2.2.1
  simp only [GsL3One.P, unPaper, l1In_eq, l2Word_eq d hz, Option.bind_some, letK, joinK, appK, iteK_if, okPa, markB]
  cases inB a 1 99 <;> cases inB b 1 300 <;> cases inB c 0 9 <;> cases d.toList.isEmpty <;> simp
end Go.Proofs.Ytbnpdaipgamgkaa.QOnePaper

/- Watermarks of papers: the plain functions of the program and of the reference agree, and the law answers true. (Q3List) No condition but those of each theorem. -/
namespace Go.Proofs.Ytbnpdaipgamgkaa.Q3List
set_option linter.unusedVariables false
set_option linter.unusedSimpArgs false
open Go.RowKit
open Go.Proofs.Ytbnpdaipgamgkaa.GoP Go.Proofs.Ytbnpdaipgamgkaa.PlainStamp Go.Proofs.Ytbnpdaipgamgkaa.QBase Go.Proofs.Ytbnpdaipgamgkaa.QOnePaper Go.Proofs.Ytbnpdaipgamgkaa.QLoop Go.Proofs.Ytbnpdaipgamgkaa.PPaper

def okPas (l : List Paper) : Bool := upL 10 okPa Paper.id l
theorem arePapers_eq (l : List Paper) : GiArePapers.P l = some (okPas l) := by
  simp only [GiArePapers.P, GiAreByKeyPaperIntiIsPaperiIdOfPaper.P, letK, iteK_if]
  by_cases hl : l.length ≤ 10
  · rw [if_neg (by simp; omega), up_loop (ok := okPa) (id := Paper.id) (no := false)]
    · unfold okPas upL; cases upTo okPa Paper.id l l.length <;> simp [hl, GiAreByKeyPaperIntiIsPaperiIdOfPaper.e0]
    · intro k nx s hs
      have hi : idx l (k : Int) = some s := by rw [idx_nat, hs]
      have hk : k < l.length := (List.getElem?_eq_some_iff.1 hs).1
      simp only [GiAreByKeyPaperIntiIsPaperiIdOfPaper.l0, hi, Option.bind_some, unPaper, isPaper_eq, GiIdOfPaper.P, letK, joinK, appK, iteK_if]
      refine ⟨fun h => by simp [h], fun h => ⟨fun h0 => by subst h0; simp [h], fun h0 r hr => ?_⟩⟩
      rw [idx_pred h0 (by omega) hr]
      have hk0 : (0 : Int) < (k : Int) := by omega
      have hk1 : ¬ k = 0 := by omega
      exact ⟨fun hlt => by (have hc : ¬ s.id ≤ r.id := by omega); simp [h, hk0, hk1, hc], fun hge => by simp [h, hk0, hk1, hge]⟩
  · rw [if_pos (by simp; omega)]; unfold okPas upL; simp [hl]
theorem l3Good_eq (l : List Paper) (hf : ∀ s ∈ l, s.fits) (hl : l.length ≤ 9223372036854775807) : GsL3Good.P l = some (okPas l) := by
  simp only [GsL3Good.P]
  rw [up_loop (ok := okPa) (id := Paper.id) (no := false)]
  · unfold okPas upL; cases upTo okPa Paper.id l l.length <;> simp [GsL3Good.e0, letK]; omega
  · intro k nx s hs
    have hi : idx l (k : Int) = some s := by rw [idx_nat, hs]
    have hk : k < l.length := (List.getElem?_eq_some_iff.1 hs).1
    have hm := hf s (List.mem_of_getElem? hs)
    simp only [GsL3Good.l0, hi, Option.bind_some, unPaper, letK, joinK, appK, iteK_if]
    rw [l3One_eq _ hm]
    refine ⟨fun h => by simp [h], fun h => ⟨fun h0 => by subst h0; simp [h], fun h0 r hr => ?_⟩⟩
    rw [idx_pred h0 (by omega) hr]
    have hk0 : (0 : Int) < (k : Int) := by omega
    have hk1 : ¬ k = 0 := by omega
    exact ⟨fun hlt => by (have hc : ¬ s.id ≤ r.id := by omega); simp [h, hk0, hk1, hc], fun hge => by simp [h, hk0, hk1, hge]⟩
end Go.Proofs.Ytbnpdaipgamgkaa.Q3List

/- Loops that test each place, and loops without a count. No condition. -/
namespace Go.Proofs.Ytbnpdaipgamgkaa.QAll
set_option linter.unusedVariables false
set_option linter.unusedSimpArgs false
open Go.RowKit
open Go.Proofs.Ytbnpdaipgamgkaa.GoP Go.Proofs.Ytbnpdaipgamgkaa.QBase Go.Proofs.Ytbnpdaipgamgkaa.QLoop

/-- each number below n is good -/
def allN (n : Nat) (p : Nat → Bool) : Bool := (List.range n).all p
theorem allN_iff {n : Nat} {p : Nat → Bool} : allN n p = true ↔ ∀ i, i < n → p i = true := by unfold allN; simp
theorem allN_no {n k : Nat} {p : Nat → Bool} (hk : k < n) (h : p k = false) : allN n p = false := by
  rw [Bool.eq_false_iff]; intro ha; rw [allN_iff.1 ha k hk] at h; exact absurd h (by simp)
theorem allN_eq {n m : Nat} {p q : Nat → Bool} (h : (∀ i, i < n → p i = true) ↔ (∀ i, i < m → q i = true)) : allN n p = allN m q := by
  rw [Bool.eq_iff_iff, allN_iff, allN_iff]; exact h
theorem all_cnt {ρ : Type} {n : Nat} {p : Nat → Bool} {no : ρ} {f : Nat → Unit → (Unit → Option ρ) → (Unit → Option ρ) → Option ρ} {fin : Unit → Option ρ}
    (step : ∀ k nx, k < n → (p k = false → f k () nx fin = some no) ∧ (p k = true → f k () nx fin = nx ())) : cntK f n 0 () fin = if allN n p = true then fin () else some no := by
  have key : ∀ m k, k + m = n → (∀ i, i < k → p i = true) → cntK f m k () fin = if allN n p = true then fin () else some no := by
    intro m
    induction m with
    | zero => intro k hk hu; obtain rfl : k = n := by omega
              rw [allN_iff.2 hu]; rfl
    | succ m ih =>
      intro k hk hu
      obtain ⟨h1, h2⟩ := step k (fun s' => cntK f m (k + 1) s' fin) (by omega)
      show f k () _ fin = _
      cases hp : p k with
      | false => rw [h1 hp, allN_no (by omega) hp]; rfl
      | true =>
        rw [h2 hp]
        refine ih (k + 1) (by omega) (fun i hi => ?_)
        by_cases he : i = k
        · rw [he]; exact hp
        · exact hu i (by omega)
  exact key n 0 (by omega) (fun i hi => by omega)
theorem lp_ex {σ ρ : Type} {f : σ → (σ → Option ρ) → (σ → Option ρ) → Option ρ} {fin : σ → Option ρ} {Q : ρ → Prop} {n : Nat} (I : Nat → σ → Prop)
    (step : ∀ k s nx, k < n → I k s → (∀ s', I (k + 1) s' → ∃ r, nx s' = some r ∧ Q r) → ∃ r, f s nx fin = some r ∧ Q r) (done : ∀ s nx, I n s → ∃ r, f s nx fin = some r ∧ Q r) :
    ∀ fuel k s, k ≤ n → n - k < fuel → I k s → ∃ r, loopK f fuel s fin = some r ∧ Q r := by
  intro fuel
  induction fuel with
  | zero => intro k s hk hf; omega
  | succ m ih =>
    intro k s hk hf hI
    show ∃ r, f s _ fin = some r ∧ Q r
    by_cases he : k = n
    · subst he; exact done s _ hI
    · exact step k s _ (by omega) hI (fun s' h' => ih (k + 1) s' (by omega) (by omega) h')
theorem all_lp {ρ : Type} {n : Nat} {p : Nat → Bool} {no : ρ} {f : Int → (Int → Option ρ) → (Int → Option ρ) → Option ρ} {fin : Int → Option ρ}
    (step : ∀ (k : Nat) nx, k < n → (p k = false → f (k : Int) nx fin = some no) ∧ (p k = true → f (k : Int) nx fin = nx ((k + 1 : Nat) : Int))) (stop : ∀ nx, f (n : Int) nx fin = fin (n : Int))
    (fuel : Nat) (hf : n < fuel) : loopK f fuel 0 fin = if allN n p = true then fin (n : Int) else some no := by
  have key : ∀ fuel k, k ≤ n → n - k < fuel → (∀ i, i < k → p i = true) → loopK f fuel (k : Int) fin = if allN n p = true then fin (n : Int) else some no := by
    intro fuel
    induction fuel with
    | zero => intro k hk hf; omega
    | succ m ih =>
      intro k hk hf hu
      show f (k : Int) _ fin = _
      by_cases he : k = n
      · subst he; rw [stop, allN_iff.2 hu]; rfl
      · obtain ⟨h1, h2⟩ := step k (fun s' => loopK f m s' fin) (by omega)
        cases hp : p k with
        | false => rw [h1 hp, allN_no (by omega) hp]; rfl
        | true =>
          rw [h2 hp]
          refine ih (k + 1) (by omega) (by omega) (fun i hi => ?_)
          by_cases he : i = k
          · rw [he]; exact hp
          · exact hu i (by omega)
  exact key fuel 0 (by omega) (by omega) (fun i hi => by omega)
theorem next_i {k : Nat} (h : k ≤ 9223372036854775806) : IntKind.i64.wrap ((k : Int) + 1) = ((k + 1 : Nat) : Int) := by rw [wrap_in (by omega) (by omega)]; omega
end Go.Proofs.Ytbnpdaipgamgkaa.QAll

/- Rising rows: what a rising row gives; loops that sum; loops from one on. No condition. -/
namespace Go.Proofs.Ytbnpdaipgamgkaa.QUp
set_option linter.unusedVariables false
set_option linter.unusedSimpArgs false
open Go.RowKit
open Go.Proofs.Ytbnpdaipgamgkaa.GoP Go.Proofs.Ytbnpdaipgamgkaa.QBase Go.Proofs.Ytbnpdaipgamgkaa.QLoop Go.Proofs.Ytbnpdaipgamgkaa.QAll

theorem upTo_at {α : Type} {ok : α → Bool} {id : α → Int} {l : List α} {n : Nat} (h : upTo ok id l n = true) {k : Nat} (hk : k < n) : upAt ok id l k = true := List.all_eq_true.1 h k (List.mem_range.2 hk)
theorem upTo_ok {α : Type} {ok : α → Bool} {id : α → Int} {l : List α} {n : Nat} (h : upTo ok id l n = true) {k : Nat} (hk : k < n) {x : α} (hx : l[k]? = some x) : ok x = true := by
  have := upTo_at h hk
  unfold upAt at this
  rw [hx] at this
  simp only [Bool.and_eq_true] at this
  exact this.1
theorem upTo_step {α : Type} {ok : α → Bool} {id : α → Int} {l : List α} {n : Nat} (h : upTo ok id l n = true) {k : Nat} (hk : k + 1 < n) {x y : α} (hx : l[k]? = some x) (hy : l[k + 1]? = some y) : id x < id y := by
  have := upTo_at h hk
  unfold upAt at this
  rw [hy] at this
  simp only [Nat.add_sub_cancel, hx, Bool.and_eq_true, Bool.or_eq_true, decide_eq_true_eq] at this
  rcases this.2 with h0 | h0
  · omega
  · exact h0
theorem upTo_lt {α : Type} {ok : α → Bool} {id : α → Int} {l : List α} {n : Nat} (h : upTo ok id l n = true) (hn : n ≤ l.length) {i : Nat} : ∀ d {x y : α}, i + d + 1 < n → l[i]? = some x → l[i + d + 1]? = some y → id x < id y := by
  intro d
  induction d with
  | zero => intro x y hk hx hy; exact upTo_step h hk hx hy
  | succ d ih =>
    intro x y hk hx hy
    obtain ⟨z, hz, _⟩ := at_lt (l := l) (k := i + d + 1) (by omega)
    have h1 := ih (by omega) hx hz
    have h2 := upTo_step (k := i + d + 1) h (by omega) hz (by rw [← hy]; rfl)
    omega
/-- rising numbers: the later one is greater -/
theorem up_less {α : Type} {ok : α → Bool} {id : α → Int} {l : List α} (h : upTo ok id l l.length = true) {i j : Nat} {x y : α} (hij : i < j) (hx : l[i]? = some x) (hy : l[j]? = some y) : id x < id y := by
  have hj := (List.getElem?_eq_some_iff.1 hy).1
  exact upTo_lt h (Nat.le_refl _) (j - i - 1) (by omega) hx (by rw [← hy]; congr 1; omega)
/-- a loop with fuel, from k on, by an invariant -/
theorem lp_is {σ ρ : Type} {f : σ → (σ → Option ρ) → (σ → Option ρ) → Option ρ} {fin : σ → Option ρ} {n : Nat} (r : ρ) (I : Nat → σ → Prop)
    (step : ∀ k s nx, k < n → I k s → (∀ s', I (k + 1) s' → nx s' = some r) → f s nx fin = some r) (done : ∀ s nx, I n s → f s nx fin = some r) (fuel : Nat) (k : Nat) (s : σ) (hk : k ≤ n) (hf : n - k < fuel) (hI : I k s) : loopK f fuel s fin = some r := by
  obtain ⟨r', h, rfl⟩ := lp_ex (Q := fun x => x = r) I (fun k s nx hk hI hn => ⟨r, step k s nx hk hI (fun s' h' => by obtain ⟨_, h, rfl⟩ := hn s' h'; exact h), rfl⟩) (fun s nx h => ⟨r, done s nx h, rfl⟩) fuel k s hk hf hI
  exact h
theorem most_eq (a b : Int) (h : (if b < a then a else b) = max a b := by omega) : (if b < a then a else b) = max a b := h
end Go.Proofs.Ytbnpdaipgamgkaa.QUp

/- A loop that gathers what a test lets through: the plain loop's answer. (QGath) No condition but those of each theorem. -/
namespace Go.Proofs.Ytbnpdaipgamgkaa.QGath
set_option linter.unusedVariables false
open Go.RowKit
open Go.Proofs.Ytbnpdaipgamgkaa.GoP Go.Proofs.Ytbnpdaipgamgkaa.QBase Go.Proofs.Ytbnpdaipgamgkaa.QLoop

theorem gather {α β R : Type} {l : List α} {p : α → Bool} {g : α → β} {f : Nat → List β → (List β → Option R) → (List β → Option R) → Option R} {fin : List β → Option R} (hl : l.length ≤ 1099511627776)
    (step : ∀ k nx x s, l[k]? = some x → s.length ≤ 1099511627776 → f k s nx fin = nx (if p x then s ++ [g x] else s)) : cntK f l.length 0 [] fin = fin ((l.filter p).map g) := by
  have key : ∀ m k, k + m = l.length → cntK f m k (((l.take k).filter p).map g) fin = fin ((l.filter p).map g) := by
    intro m
    induction m with
    | zero => intro k hk; obtain rfl : k = l.length := by omega
              rw [List.take_of_length_le (Nat.le_refl _)]; rfl
    | succ m ih =>
      intro k hk
      obtain ⟨x, hx, _⟩ := at_lt (l := l) (k := k) (by omega)
      show f k _ _ fin = _
      have hle : (((l.take k).filter p).map g).length ≤ 1099511627776 := by
        rw [List.length_map]
        have := List.length_filter_le p (l.take k)
        rw [List.length_take] at this
        omega
      rw [step k _ x _ hx hle, ← ih (k + 1) (by omega), take_next hx, List.filter_append, List.map_append]
      cases hp : p x <;> simp [List.filter, hp]
  exact key l.length 0 (by omega)
end Go.Proofs.Ytbnpdaipgamgkaa.QGath

/- Watermarks of papers: the plain functions of the program and of the reference agree, and the law answers true. (Q3Marks) No condition but those of each theorem. -/
namespace Go.Proofs.Ytbnpdaipgamgkaa.Q3Marks
set_option linter.unusedVariables false
set_option linter.unusedSimpArgs false
open Go.RowKit
open Go.Proofs.Ytbnpdaipgamgkaa.GoP Go.Proofs.Ytbnpdaipgamgkaa.PlainStamp Go.Proofs.Ytbnpdaipgamgkaa.QBase Go.Proofs.Ytbnpdaipgamgkaa.QTexts Go.Proofs.Ytbnpdaipgamgkaa.Q3List Go.Proofs.Ytbnpdaipgamgkaa.QOnePaper Go.Proofs.Ytbnpdaipgamgkaa.QOrd Go.Proofs.Ytbnpdaipgamgkaa.QUp Go.Proofs.Ytbnpdaipgamgkaa.QAll Go.Proofs.Ytbnpdaipgamgkaa.QGath Go.Proofs.Ytbnpdaipgamgkaa.QLoop Go.Proofs.Ytbnpdaipgamgkaa.PPaper

def marks (l : List Paper) : List ByteArray := (l.filter fun p => !p.mark.toList.isEmpty).map Paper.mark
def marksRes (l : List Paper) : List ByteArray × Bool := if okPas l = true then (sorted (marks l), true) else ([], false)
theorem marks_len (l : List Paper) : (marks l).length ≤ l.length := by unfold marks; rw [List.length_map]; exact List.length_filter_le _ _
theorem marks_impl (l : List Paper) : GiMarkNames.P l = some (marksRes l) := by
  simp only [GiMarkNames.P, arePapers_eq l, Option.bind_some, letK, iteK_if, marksRes]
  cases hc : okPas l with
  | false => simp
  | true =>
    have h10 : l.length ≤ 10 := upL_len hc
    simp only [Bool.not_true, Bool.false_eq_true, if_false, if_true]
    rw [gather (p := fun p : Paper => !p.mark.toList.isEmpty) (g := Paper.mark) (by omega)]
    · have hl := marks_len l
      have := sort_comp (l := marks l) (by omega)
      cases hs : GxSlicesSortStringString.P (marks l) with
      | none => rw [hs] at this; simp at this
      | some m =>
        rw [hs, Option.bind_some] at this
        unfold marks at hs
        simp only [GiMarkNames.e0, letK, hs, Option.bind_some, this]
    · intro k nx x s hx hs
      have hi : idx l (k : Int) = some x := by rw [idx_nat, hx]
      simp only [GiMarkNames.l0, letK, hi, Option.bind_some, unPaper, appK, iteK_if]
      rw [guardK_pos hs]
      cases x.mark.toList.isEmpty <;> rfl
theorem find_any {l : List ByteArray} {n : ByteArray} {R : Type} (e : Bool → Option R) (f : Nat → Bool → (Bool → Option R) → (Bool → Option R) → Option R) (b : Bool)
    (step : ∀ k nx x b, l[k]? = some x → f k b nx e = nx (b || decide (x = n))) : cntK f l.length 0 b e = e (b || l.any fun x => decide (x = n)) := by
  have key : ∀ m k b, k + m = l.length → cntK f m k b e = e (b || (l.drop k).any fun x => decide (x = n)) := by
    intro m
    induction m with
    | zero => intro k b hk; rw [List.drop_of_length_le (by omega)]; simp [cntK]
    | succ m ih =>
      intro k b hk
      obtain ⟨x, hx, _⟩ := at_lt (l := l) (k := k) (by omega)
      obtain ⟨hlt, e1⟩ := List.getElem?_eq_some_iff.1 hx
      show f k b _ e = _
      rw [step k _ x b hx, ih (k + 1) _ (by omega), List.drop_eq_getElem_cons hlt, e1, List.any_cons, Bool.or_assoc]
  exact key l.length 0 b (by omega)
theorem marks_spec {fuel : Nat} (l : List Paper) (hf : ∀ s ∈ l, s.fits) (hl : l.length ≤ 9223372036854775807) (hfu : 12 < fuel) : GsMarkNames.P fuel l = some (marksRes l) := by
  simp only [GsMarkNames.P, l3Good_eq l hf hl, Option.bind_some, letK, iteK_if, marksRes]
  cases hc : okPas l with
  | false => simp
  | true =>
    have h10 : l.length ≤ 10 := upL_len hc
    simp only [Bool.not_true, Bool.false_eq_true, if_false, if_true]
    refine cnt_is _ (fun k (s : List ByteArray) => strict s ∧ (∀ x, x ∈ s ↔ x ∈ marks (l.take k)) ∧ s.length ≤ k) ?_ ?_ _ ⟨List.Pairwise.nil, fun x => by simp [marks], by simp⟩
    · intro k s nx hk ⟨h1, h2, h3⟩ hn
      obtain ⟨p, hp, hi⟩ := at_lt (l := l) (k := k) hk
      obtain ⟨nm, hnm⟩ : ∃ nm, p.mark = nm := ⟨_, rfl⟩
      have hmk : ∀ x, x ∈ marks (l.take (k + 1)) ↔ x ∈ marks (l.take k) ∨ (nm.toList.isEmpty = false ∧ x = nm) := by
        intro x
        unfold marks
        rw [take_next hp, List.filter_append, List.map_append, List.mem_append]
        cases he : nm.toList.isEmpty with
        | true => simp [List.filter, hnm, he]
        | false => simp [List.filter, hnm, he]
      simp only [GsMarkNames.l0, letK, hi, Option.bind_some, unPaper, hnm]
      rw [find_any (n := nm) (GsMarkNames.e1 fuel nx s nm) (GsMarkNames.l1 s nm) nm.toList.isEmpty (by
        intro k1 nx1 x b hx
        have hi1 : idx s (k1 : Int) = some x := by rw [idx_nat, hx]
        simp only [GsMarkNames.l1, letK, hi1, Option.bind_some, joinK, appK, iteK_if, eq_list]
        cases b <;> simp)]
      obtain ⟨kn, hkn⟩ : ∃ kn, (nm.toList.isEmpty || s.any fun x => decide (x = nm)) = kn := ⟨_, rfl⟩
      rw [hkn]
      simp only [GsMarkNames.e1, letK]
      have fin : ∀ q : Nat, q ≤ s.length → (∀ i x, q ≤ i → s[i]? = some x → bl nm x = true) → (∀ x, 0 < q → s[q-1]? = some x → bl nm x = false) → GsMarkNames.e2 nx s nm kn (q : Int) = some (sorted (marks l), true) := by
        intro q hq hup hlo
        simp only [GsMarkNames.e2, letK, iteK_if]
        cases kn with
        | true =>
          simp only [Bool.not_true, Bool.false_eq_true, if_false, appK]
          refine hn _ ⟨h1, fun x => ?_, by omega⟩
          rw [hmk, ← h2]
          constructor
          · exact Or.inl
          · rintro (h | ⟨he, rfl⟩)
            · exact h
            · rw [he, Bool.false_or, List.any_eq_true] at hkn
              obtain ⟨y, hy, e⟩ := hkn
              simp only [decide_eq_true_eq] at e
              rw [← e]; exact hy
        | false =>
          simp only [Bool.or_eq_false_iff] at hkn
          obtain ⟨hne, hni⟩ := hkn
          have hnin : ¬ nm ∈ s := by
            intro hm
            rw [List.any_eq_false] at hni
            exact hni nm hm (by simp)
          simp only [Bool.not_false, if_true, appK, List.nil_append, Int.toNat_natCast]
          rw [guardK_pos (by omega), guardK_pos (by simp; omega), guardK_pos (by simp; omega), guardK_pos (by omega), guardK_pos (by simp; omega)]
          have hlow : ∀ x ∈ s.take q, bl x nm = true := by
            intro x hx
            obtain ⟨i, hi⟩ := List.getElem?_of_mem hx
            have hil := (List.getElem?_eq_some_iff.1 hi).1
            rw [List.length_take] at hil
            rw [List.getElem?_take_of_lt (by omega)] at hi
            obtain ⟨y, hy, _⟩ := at_lt (l := s) (k := q - 1) (by omega)
            have hny := hlo y (by omega) hy
            have hyn : bl y nm = true := by
              have hne2 : y ≠ nm := fun e => hnin (e ▸ List.mem_of_getElem? hy)
              rw [bl_total hne2, hny]; rfl
            by_cases e : i = q - 1
            · subst e; rw [hi] at hy; obtain rfl := Option.some.inj hy; exact hyn
            · obtain ⟨a1, a2⟩ := List.getElem?_eq_some_iff.1 hi
              obtain ⟨b1, b2⟩ := List.getElem?_eq_some_iff.1 hy
              have := List.pairwise_iff_getElem.1 h1 i (q - 1) a1 b1 (by omega)
              rw [a2, b2] at this
              exact bl_trans this hyn
          have hhigh : ∀ x ∈ s.drop q, bl nm x = true := by
            intro x hx
            obtain ⟨i, hi⟩ := List.getElem?_of_mem hx
            rw [List.getElem?_drop] at hi
            exact hup (q + i) x (by omega) hi
          refine hn _ ⟨?_, fun x => ?_, ?_⟩
          · refine List.pairwise_append.2 ⟨List.pairwise_append.2 ⟨List.Pairwise.sublist (List.take_sublist _ _) h1, by simp, fun a ha b hb => by simp at hb; subst hb; exact hlow a ha⟩, List.Pairwise.sublist (List.drop_sublist _ _) h1, fun a ha b hb => ?_⟩
            rw [List.mem_append, List.mem_singleton] at ha
            rcases ha with ha | rfl
            · exact bl_trans (hlow a ha) (hhigh b hb)
            · exact hhigh b hb
          · rw [hmk, ← h2, List.mem_append, List.mem_append, List.mem_singleton]
            have hs : x ∈ s ↔ x ∈ s.take q ∨ x ∈ s.drop q := by rw [← List.mem_append, List.take_append_drop]
            rw [hs]
            constructor
            · rintro ((h | rfl) | h)
              · exact .inl (.inl h)
              · exact .inr ⟨hne, rfl⟩
              · exact .inl (.inr h)
            · rintro ((h | h) | ⟨_, rfl⟩)
              · exact .inl (.inl h)
              · exact .inr h
              · exact .inl (.inr rfl)
          · simp; omega
      refine lp_is (n := s.length) _ (fun j (i : Int) => ∃ q : Nat, i = (q : Int) ∧ q + j = s.length ∧ ∀ i' x, q ≤ i' → s[i']? = some x → bl nm x = true) ?_ ?_ fuel 0 _ (by omega) (by omega) ⟨s.length, rfl, by omega, fun i' x h hx => by have := (List.getElem?_eq_some_iff.1 hx).1; omega⟩
      · rintro j i nx2 hj ⟨q, rfl, hq, hup⟩ hn2
        obtain ⟨y, hy, _⟩ := at_lt (l := s) (k := q - 1) (by omega)
        have hq0 : (0 : Int) < (q : Int) := by omega
        have hw : IntKind.i64.wrap ((q : Int) - 1) = ((q - 1 : Nat) : Int) := by rw [wrap_in (by omega) (by omega)]; omega
        have hiq : idx s ((q - 1 : Nat) : Int) = some y := by rw [idx_nat, hy]
        simp only [GsMarkNames.l2, letK, decide_eq_true hq0, joinK, appK, iteK_if, if_true, hw, hiq, Option.bind_some, bl_lt]
        cases hb : bl nm y with
        | true =>
          simp only [if_true]
          refine hn2 _ ⟨q - 1, rfl, by omega, fun i' x h hx => ?_⟩
          by_cases e : i' = q - 1
          · subst e; rw [hy] at hx; obtain rfl := Option.some.inj hx; exact hb
          · exact hup i' x (by omega) hx
        | false =>
          simp only [Bool.false_eq_true, if_false]
          exact fin q (by omega) hup (fun x _ hx => by rw [hy] at hx; obtain rfl := Option.some.inj hx; exact hb)
      · rintro i nx2 ⟨q, rfl, hq, hup⟩
        obtain rfl : q = 0 := by omega
        have hq0 : ¬ ((0 : Int) < ((0 : Nat) : Int)) := by omega
        simp only [GsMarkNames.l2, letK, decide_eq_false hq0, joinK, appK, iteK_if, Bool.false_eq_true, if_false]
        exact fin 0 (by omega) hup (fun x h _ => by omega)
    · intro s ⟨h1, h2, _⟩
      rw [List.take_of_length_le (Nat.le_refl _)] at h2
      obtain ⟨k1, k2, _⟩ := sorted_facts (marks l)
      simp only [GsMarkNames.e0, letK]
      rw [strict_ext h1 k1 (fun x => (h2 x).trans (k2 x).symm)]
theorem marksRes_len (l : List Paper) : (marksRes l).1.length ≤ 10 := by
  unfold marksRes
  split
  · rename_i h
    have h1 : l.length ≤ 10 := upL_len h
    have h2 := (sorted_facts (marks l)).2.2
    have h3 := marks_len l
    dsimp only; omega
  · simp
end Go.Proofs.Ytbnpdaipgamgkaa.Q3Marks

/- The laws' helpers on Paper and on slices of it as plain functions: copied, equal, their bulk. No condition. -/
namespace Go.Proofs.Ytbnpdaipgamgkaa.QHPaperE
set_option linter.unusedVariables false
set_option linter.unusedSimpArgs false
open Go.RowKit
open Go.Proofs.Ytbnpdaipgamgkaa.GoP Go.Proofs.Ytbnpdaipgamgkaa.QBase Go.Proofs.Ytbnpdaipgamgkaa.QLoop Go.Proofs.Ytbnpdaipgamgkaa.PPaper

theorem toOne (s : Paper) : GlToPaper.P s = some s := by cases s; rfl
theorem eqOne (s : Paper) : GlEqPaper.P s s = some true := by
  obtain ⟨x0, x1, x2, x3, x4⟩ := s
  simp [GlEqPaper.P, unPaper, letK, joinK, appK, iteK_if]
theorem toS (l : List Paper) (hl : l.length ≤ 1048576) : GlToPaperS.P l = some l := by
  simp only [GlToPaperS.P, letK]
  rw [guardK_pos (by omega)]
  refine cnt_is l (fun k s => s = l.take k ++ List.replicate (l.length - k) (Paper.mk 0 0 0 ByteArray.empty false)) ?_ ?_ _ (by simp)
  · intro k s nx hk hI hn
    obtain ⟨x, hx, hi⟩ := at_lt (l := l) (k := k) hk
    have hlen : s.length = l.length := by rw [hI]; simp; omega
    obtain ⟨z, hz, hj⟩ := at_lt (l := s) (k := k) (by omega)
    simp only [GlToPaperS.l0, hi, hj, toOne, Option.bind_some, unPaper, letK, appK]
    refine hn _ ?_
    rw [hI, take_next hx, List.set_append_right _ _ (by simp; omega)]
    have hr : l.length - k = (l.length - (k + 1)) + 1 := by omega
    rw [hr, List.replicate_succ, List.append_assoc]
    simp [show k - min k l.length = 0 by omega]
  · intro s hI
    rw [hI]; simp [GlToPaperS.e0, letK]
theorem eqS (l : List Paper) : GlEqPaperS.P l l = some true := by
  simp only [GlEqPaperS.P, letK, iteK_if]
  rw [if_neg (by simp)]
  refine cnt_is true (fun _ _ => True) ?_ (fun s _ => rfl) () trivial
  intro k s nx hk _ hn
  obtain ⟨x, hx, hi⟩ := at_lt (l := l) (k := k) hk
  simp only [GlEqPaperS.l0, hi, Option.bind_some, unPaper, eqOne, letK, appK, iteK_if]
  exact hn () trivial
theorem fits_max {s : Paper} (h : s.fits) : s.mark.size ≤ 9223372036854775807 := by
  obtain ⟨x0, x1, x2, x3, x4⟩ := s
  obtain ⟨hx0, hx1, hx2, hx3, hx4⟩ := h
  unfold maxLen at hx3
  exact hx3
theorem szOne (s : Paper) (left : Int) (h : s.fits) (h0 : 0 ≤ left) (h1 : left ≤ 1048576) : ∃ v, GlSzPaper.P s left = some v ∧ v ≤ left := by
  have hm := fits_max h
  simp only [GlSzPaper.P, unPaper, letK, iteK_if]
  rw [wrap_in (x := left - (s.mark.size : Int)) (by omega) (by omega)]
  by_cases hd0 : left - (s.mark.size : Int) < 0
  · exact ⟨-1, by rw [if_pos (by simpa using hd0)], by omega⟩
  rw [if_neg (by simpa using hd0)]
  exact ⟨_, rfl, by omega⟩
theorem szS (l : List Paper) (hf : ∀ s ∈ l, s.fits) (hl : l.length ≤ 9223372036854775807) : ∃ v, GlSzPaperS.P l 1048576 = some v ∧ (0 ≤ v → l.length ≤ 1048576) := by
  simp only [GlSzPaperS.P, letK, iteK_if]
  rw [wrap_in (by omega) (by omega)]
  by_cases h : (1048576 : Int) - (l.length : Int) < 0
  · exact ⟨-1, by rw [if_pos (by simp; omega)], by omega⟩
  · rw [if_neg (by simp; omega)]
    refine cnt_ex (n := l.length) (Q := fun v => 0 ≤ v → l.length ≤ 1048576) (fun _ (s : Int) => 0 ≤ s ∧ s ≤ 1048576) ?_ ?_ l.length 0 _ (by omega) ⟨by omega, by omega⟩
    · intro k s nx hk hI hn
      obtain ⟨x, hx, hi⟩ := at_lt (l := l) (k := k) hk
      simp only [GlSzPaperS.l0, hi, Option.bind_some, unPaper, letK, appK, iteK_if]
      obtain ⟨v, hv, hv1⟩ := szOne x s (hf x (List.mem_of_getElem? hx)) hI.1 hI.2
      have hv' : GlSzPaper.P ⟨x.id, x.thick, x.tint, x.mark, x.laid⟩ s = some v := hv
      rw [hv']
      simp only [Option.bind_some]
      by_cases hb : v < 0
      · rw [if_pos (by simpa using hb)]; exact ⟨-1, by simp, by omega⟩
      · rw [if_neg (by simpa using hb)]
        exact hn _ ⟨by omega, by omega⟩
    · intro s hI; exact ⟨s, rfl, fun _ => by omega⟩
end Go.Proofs.Ytbnpdaipgamgkaa.QHPaperE

/- The laws' helper that marks a slice of Paper as a plain function. No condition. -/
namespace Go.Proofs.Ytbnpdaipgamgkaa.QHPaper
set_option linter.unusedVariables false
set_option linter.unusedSimpArgs false
open Go.RowKit
open Go.Proofs.Ytbnpdaipgamgkaa.GoP Go.Proofs.Ytbnpdaipgamgkaa.QBase Go.Proofs.Ytbnpdaipgamgkaa.QLoop Go.Proofs.Ytbnpdaipgamgkaa.PPaper 
theorem set_at {α : Type} {l : List α} {k : Nat} (x : α) (h : k < l.length) : idx (l.set k x) (k : Int) = some x := by rw [idx_nat, List.getElem?_set_self h]
theorem mark_ok (k : Int) (h : 1 ≤ k ∧ k ≤ 1000000000) : ∃ t, GlMarkText.P k = some t := by
  unfold GlMarkText.P; rw [if_pos h]; exact ⟨_, rfl⟩
theorem markS (l : List Paper) (hl : l.length ≤ 1048576) : ∃ v l', GlMarkPaperS.P l 1 = some (v, l') ∧ 0 ≤ v := by
  obtain ⟨⟨v, l'⟩, h, hv⟩ : ∃ r : Int × List Paper, GlMarkPaperS.P l 1 = some r ∧ 0 ≤ r.1 := by
    simp only [GlMarkPaperS.P]
    refine cnt_ex (n := l.length) (Q := fun r : Int × List Paper => 0 ≤ r.1) (fun k (s : List Paper × Int) => s.1.length = l.length ∧ s.2 = 5 * (k : Int) + 1) ?_ ?_ l.length 0 (l, 1) (by omega) ⟨rfl, rfl⟩
    · rintro k ⟨a, b⟩ nx hk ⟨h1, h2⟩ hn
      dsimp only at h1 h2
      obtain ⟨x, hx, hi⟩ := at_lt (l := a) (k := k) (by omega)
      have ha : k < a.length := by omega
      have w1 : IntKind.i64.wrap (b + 1) = b + 1 := wrap_in (by omega) (by omega)
      have w2 : IntKind.i64.wrap (b + 1 + 1) = b + 1 + 1 := wrap_in (by omega) (by omega)
      have w3 : IntKind.i64.wrap (b + 1 + 1 + 1) = b + 1 + 1 + 1 := wrap_in (by omega) (by omega)
      have w4 : IntKind.i64.wrap (b + 1 + 1 + 1 + 1) = b + 1 + 1 + 1 + 1 := wrap_in (by omega) (by omega)
      have w5 : IntKind.i64.wrap (b + 1 + 1 + 1 + 1 + 1) = b + 1 + 1 + 1 + 1 + 1 := wrap_in (by omega) (by omega)
      obtain ⟨t3, m3⟩ := mark_ok (b + 1 + 1 + 1) (by omega)
      simp (disch := simp [ha]) only [GlMarkPaperS.l0, unp2, hi, set_at, Option.bind_some, unPaper, letK, appK, w1, w2, w3, w4, w5, m3]
      exact hn _ ⟨by simpa using h1, by dsimp only; omega⟩
    · rintro ⟨a, b⟩ ⟨h1, h2⟩
      exact ⟨_, rfl, by dsimp only at h2 ⊢; omega⟩
  exact ⟨v, l', h, hv⟩
end Go.Proofs.Ytbnpdaipgamgkaa.QHPaper

