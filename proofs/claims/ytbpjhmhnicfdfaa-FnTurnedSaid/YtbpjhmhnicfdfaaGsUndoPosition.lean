/- loop.example/g01062/spec.UndoPosition as a plain function, and the contract of the program's: where the plain one has an answer, the program has it. Conditions: slices read as lists. -/
import Derived.Test.YtbpjhmhnicfdfaaChecked
import Derived.Test.YtbpjhmhnicfdfaaGoM
import Derived.Test.YtbpjhmhnicfdfaaGsL3Position
import Derived.Test.YtbpjhmhnicfdfaaGsL3Join
import Derived.WalkKit
import Derived.WalkSpells
import Derived.WalkLawsBesides
import Derived.BigQuiet
import Derived.OwnWalk
import Derived.Deep.LoopGhost
import Derived.Deep.QuietTactic
import Derived.IntWalk
import Derived.Lib.QuietBelow
namespace Go.Proofs.Ytbpjhmhnicfdfaa.GsUndoPosition
set_option linter.unusedVariables false
set_option linter.unusedSimpArgs false
open Go.RowKit
open Go.Proofs.Ytbpjhmhnicfdfaa.Rowed Go.Proofs.Ytbpjhmhnicfdfaa.Turn Go.Proofs.Ytbpjhmhnicfdfaa.Aid Go.Proofs.Ytbpjhmhnicfdfaa.GoP Go.Proofs.Ytbpjhmhnicfdfaa.GoM

def l0 (a : Int) (k0 : Nat) (s : Unit) (nx0 bk0 : Unit → Option (Int × Bool)) : Option (Int × Bool) :=
  
  Option.bind (Go.Proofs.Ytbpjhmhnicfdfaa.GsL3Join.P a (k0 : Int)) fun (t_12 : Int) =>
  letK (t_12 == 0) fun (t_13 : Bool) =>
  iteK t_13
  (some ((k0 : Int), true))
  (appK nx0 ())

def e0  (s : Unit) : Option (Int × Bool) :=
  
  some (7, true)

def P (a : Int) : Option (Int × Bool) :=
  Option.bind (Go.Proofs.Ytbpjhmhnicfdfaa.GsL3Position.P a) fun (t_3 : Bool) =>
  letK (!t_3) fun (t_4 : Bool) =>
  iteK t_4
  (some (0, false))
  (cntK (l0 a) (7) 0 () (e0 ))

set_option maxRecDepth 100000 in
set_option maxHeartbeats 2000000 in
theorem C (a : Int)   (w : World)   {r0 : Int} {r1 : Bool} (H : Hid (P a = some (r0, r1))) :
    Calls Try.prog 25 #[.int .i64 a] w (Gives (.tuple #[.int .i64 r0, .bool r1]) w) := by
  have HB := Lib.hid (Below.refl w.heap.size w)
  unfold P at H
  go_enter Try.func25, Try.ntmps25
  replace H := bind_hid H
  obtain ⟨t_3, qt_3, H⟩ := H
  go_wp2_with fail
  go_at_call 48
  refine (Go.Proofs.Ytbpjhmhnicfdfaa.GsL3Position.C (a)  _    qt_3).mono ?_
  rintro e_t_3 wt_3 ⟨rfl, bt_3⟩
  have HBwt_3 := Lib.hid (Below.step HB.out bt_3)
  clear bt_3
  cases t_3 with
  | false =>
    replace H := let_hid H
    obtain ⟨t_4, ht_4, H⟩ := H
    obtain rfl : t_4 = true := ht_4.symm
    replace H := ite_t H
    cases ret_hid H
    go_wp2_with fail
    go_ret2
    exact ⟨rfl, HBwt_3.out⟩
  | true =>
    replace H := let_hid H
    obtain ⟨t_4, ht_4, H⟩ := H
    obtain rfl : t_4 = false := ht_4.symm
    replace H := ite_f H
    go_wp2_with fail
    go_loopg [4] (7) (fun m_ v4_ wr => ∃ (k0 : Nat) , k0 + m_ = 7 ∧ v4_ = .int .i64 (k0 : Int) ∧ Hid (cntK (l0 a) m_ k0 () (e0 ) = some (r0, r1)) ∧ Hid (Below w.heap.size w wr))
    case atStart => exact ⟨0, by omega, rfl, H, HBwt_3⟩
    case round =>
      obtain ⟨k0, hkm0, rfl, H, HBwr0⟩ := hrel
      rename World => wr0
      cases gk with
      | zero =>
        obtain rfl : k0 = 7 := by omega
        have hc0 : decide (((7 : Nat) : Int) < ((7 : Nat) : Int)) = false := by simp
        replace H := cnt_zero H
        unfold e0 at H
        cases ret_hid H
        go_wp2_with fail
        go_ret2
        exact ⟨rfl, HBwr0.out⟩
      | succ m0 =>
        have hlt0 : k0 < 7 := by omega
        have hc0 : decide ((k0 : Int) < ((7 : Nat) : Int)) = true := by simp; omega
        replace H := cnt_succ H
        unfold l0 at H
        replace H := bind_hid H
        obtain ⟨t_12, qt_12, H⟩ := H
        go_wp2_with fail
        go_at_call 49
        refine (Go.Proofs.Ytbpjhmhnicfdfaa.GsL3Join.C (a) ((k0 : Int))  _    qt_12).mono ?_
        rintro e_t_12 wt_12 ⟨rfl, bt_12⟩
        have HBwt_12 := Lib.hid (Below.step HBwr0.out bt_12)
        clear bt_12
        replace H := let_hid H
        obtain ⟨t_13, ht_13, H⟩ := H
        cases t_13 with
        | false =>
          replace H := ite_f H
          replace H := app_hid H
          go_wp2_with fail
          go_roundg m0
          case measure => omega
          case rel => exact ⟨k0 + 1, by omega, by go_num, H, HBwt_12⟩
        | true =>
          replace H := ite_t H
          cases ret_hid H
          go_wp2_with fail
          go_ret2
          exact ⟨rfl, HBwt_12.out⟩
end Go.Proofs.Ytbpjhmhnicfdfaa.GsUndoPosition
