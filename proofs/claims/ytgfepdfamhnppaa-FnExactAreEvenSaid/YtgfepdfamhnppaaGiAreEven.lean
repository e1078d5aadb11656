/- loop.example/g01062/impl.AreEven as a plain function, and the contract of the program's: where the plain one has an answer, the program has it. Conditions: slices read as lists. -/
import Derived.Test.YtgfepdfamhnppaaChecked
import Derived.Test.YtgfepdfamhnppaaGoM
import Derived.Test.YtgfepdfamhnppaaHelpInt
import Derived.Test.YtgfepdfamhnppaaGiAreHoles
import Derived.Test.YtgfepdfamhnppaaGiDistances
import Derived.Test.YtgfepdfamhnppaaGxSlicesMaxIntInt
import Derived.Test.YtgfepdfamhnppaaGxSlicesMinIntInt
import Derived.WalkKit
import Derived.WalkSpells
import Derived.WalkLawsBesides
import Derived.BigQuiet
import Derived.OwnWalk
import Derived.Deep.LoopGhost
import Derived.Deep.QuietTactic
import Derived.IntWalk
import Derived.Lib.QuietBelow
namespace Go.Proofs.Ytgfepdfamhnppaa.GiAreEven
set_option linter.unusedVariables false
set_option linter.unusedSimpArgs false
open Go.RowKit
open Go.Proofs.Ytgfepdfamhnppaa.Rowed Go.Proofs.Ytgfepdfamhnppaa.Turn Go.Proofs.Ytgfepdfamhnppaa.Aid Go.Proofs.Ytgfepdfamhnppaa.GoP Go.Proofs.Ytgfepdfamhnppaa.GoM

def P (fuel : Nat) (holes : (List Int)) : Option (Bool × Bool) :=
  Option.bind (Go.Proofs.Ytgfepdfamhnppaa.GiAreHoles.P holes) fun (t_3 : Bool) =>
  letK (!t_3) fun (t_4 : Bool) =>
  iteK t_4
  (some (false, false))
  (Option.bind (Go.Proofs.Ytgfepdfamhnppaa.GiDistances.P fuel holes) fun (t_8 : (List Int)) =>
  Option.bind (Go.Proofs.Ytgfepdfamhnppaa.GxSlicesMaxIntInt.P fuel t_8) fun (t_11 : Int) =>
  Option.bind (Go.Proofs.Ytgfepdfamhnppaa.GxSlicesMinIntInt.P fuel t_8) fun (t_13 : Int) =>
  letK (IntKind.i64.wrap (t_11 - t_13)) fun (t_14 : Int) =>
  letK (decide (t_14 ≤ 10)) fun (t_15 : Bool) =>
  some (t_15, true))

set_option maxRecDepth 100000 in
set_option maxHeartbeats 2000000 in
theorem C (fuel : Nat) (holes : (List Int)) (A0 : Option Addr) (c0 : Nat)  (w : World) (M0 : Hid (Cells w 1 A0 holes.length (Go.Proofs.Ytgfepdfamhnppaa.HelpInt.iv holes))) (N0 : Hid (holes.length ≤ 9223372036854775807))  {r0 : Bool} {r1 : Bool} (H : Hid (P fuel holes = some (r0, r1))) :
    Calls Try.prog 22 #[.slice A0 holes.length c0] w (Gives (.tuple #[.bool r0, .bool r1]) w) := by
  have HB := Lib.hid (Below.refl w.heap.size w)
  unfold P at H
  have N0o := N0.out
  go_enter Try.func22, Try.ntmps22
  replace H := bind_hid H
  obtain ⟨t_3, qt_3, H⟩ := H
  go_wp2_with fail
  go_at_call 49
  refine (Go.Proofs.Ytgfepdfamhnppaa.GiAreHoles.C (holes) A0 c0 _  (Lib.hid (Cells.below M0.out HB.out)) N0 qt_3).mono ?_
  rintro e_t_3 wt_3 ⟨rfl, bt_3⟩
  have HBwt_3 := Lib.hid (Below.step HB.out bt_3)
  clear bt_3
  cases t_3 with
  | false =>
    replace H := let_hid H
    obtain ⟨t_4, ht_4, H⟩ := H
    obtain rfl : t_4 = true := ht_4.symm
    replace H := ite_t H
    cases ret_hid H
    go_wp2_with fail
    go_ret2
    exact ⟨rfl, HBwt_3.out⟩
  | true =>
    replace H := let_hid H
    obtain ⟨t_4, ht_4, H⟩ := H
    obtain rfl : t_4 = false := ht_4.symm
    replace H := ite_f H
    replace H := bind_hid H
    obtain ⟨t_8, qt_8, H⟩ := H
    go_wp2_with fail
    go_at_call 53
    refine (Go.Proofs.Ytgfepdfamhnppaa.GiDistances.C fuel (holes) A0 c0 _  (Lib.hid (Cells.below M0.out HBwt_3.out)) N0 qt_8).mono ?_
    rintro e_t_8 wt_8 ⟨At_8, ct_8, rfl, ot_8, bt_8⟩
    have Ot_8 := Lib.hid (own_lower ot_8 HBwt_3.out.size)
    clear ot_8
    have HBwt_8 := Lib.hid (Below.step HBwt_3.out bt_8)
    clear bt_8
    replace H := bind_hid H
    obtain ⟨t_11, qt_11, H⟩ := H
    go_wp2_with fail
    go_at_call 54
    refine (Go.Proofs.Ytgfepdfamhnppaa.GxSlicesMaxIntInt.C fuel (t_8) At_8 ct_8 _  (Lib.hid (own_cells Ot_8.out)) (Lib.hid (own_max Ot_8.out)) qt_11).mono ?_
    rintro e_t_11 wt_11 ⟨rfl, bt_11⟩
    have HBwt_11 := Lib.hid (Below.step HBwt_8.out bt_11)
    replace Ot_8 := Lib.hid (own_below Ot_8.out bt_11)
    clear bt_11
    replace H := bind_hid H
    obtain ⟨t_13, qt_13, H⟩ := H
    go_wp2_with fail
    go_at_call 55
    refine (Go.Proofs.Ytgfepdfamhnppaa.GxSlicesMinIntInt.C fuel (t_8) At_8 ct_8 _  (Lib.hid (own_cells Ot_8.out)) (Lib.hid (own_max Ot_8.out)) qt_13).mono ?_
    rintro e_t_13 wt_13 ⟨rfl, bt_13⟩
    have HBwt_13 := Lib.hid (Below.step HBwt_11.out bt_13)
    replace Ot_8 := Lib.hid (own_below Ot_8.out bt_13)
    clear bt_13
    replace H := let_hid H
    obtain ⟨t_14, ht_14, H⟩ := H
    replace H := let_hid H
    obtain ⟨t_15, ht_15, H⟩ := H
    cases ret_hid H
    go_wp2_with fail
    go_ret2
    exact ⟨rfl, HBwt_13.out⟩
end Go.Proofs.Ytgfepdfamhnppaa.GiAreEven
