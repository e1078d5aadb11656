/- loop.example/g01062/impl.PointsOn as a plain function, and the contract of the program's: where the plain one has an answer, the program has it. Conditions: slices read as lists. -/
import Derived.Test.YtaknldlglfnbfaaChecked
import Derived.Test.YtaknldlglfnbfaaGoM
import Derived.Test.YtaknldlglfnbfaaGiIsSheet
import Derived.Test.YtaknldlglfnbfaaGiPointsIn
import Derived.WalkKit
import Derived.WalkSpells
import Derived.WalkLawsBesides
import Derived.BigQuiet
import Derived.OwnWalk
import Derived.Deep.LoopGhost
import Derived.Deep.QuietTactic
import Derived.IntWalk
import Derived.Lib.QuietBelow
namespace Go.Proofs.Ytaknldlglfnbfaa.GiPointsOn
set_option linter.unusedVariables false
set_option linter.unusedSimpArgs false
open Go.RowKit
open Go.Proofs.Ytaknldlglfnbfaa.Rowed Go.Proofs.Ytaknldlglfnbfaa.Turn Go.Proofs.Ytaknldlglfnbfaa.Aid Go.Proofs.Ytaknldlglfnbfaa.GoP Go.Proofs.Ytaknldlglfnbfaa.GoM

def P (sheet : (List ByteArray)) : Option (Int × Bool) :=
  Option.bind (Go.Proofs.Ytaknldlglfnbfaa.GiIsSheet.P sheet) fun (t_3 : Bool) =>
  letK (!t_3) fun (t_4 : Bool) =>
  iteK t_4
  (some (0, false))
  (Option.bind (Go.Proofs.Ytaknldlglfnbfaa.GiPointsIn.P sheet) fun (t_8 : Int) =>
  some (t_8, true))

set_option maxRecDepth 100000 in
set_option maxHeartbeats 2000000 in
theorem C (sheet : (List ByteArray)) (A0 : Option Addr) (c0 : Nat)  (w : World) (M0 : Hid (Cells w 1 A0 sheet.length (sheet.map Value.string))) (N0 : Hid (sheet.length ≤ 9223372036854775807))  {r0 : Int} {r1 : Bool} (H : Hid (P sheet = some (r0, r1))) :
    Calls Try.prog 60 #[.slice A0 sheet.length c0] w (Gives (.tuple #[.int .i64 r0, .bool r1]) w) := by
  have HB := Lib.hid (Below.refl w.heap.size w)
  unfold P at H
  have N0o := N0.out
  go_enter Try.func60, Try.ntmps60
  replace H := bind_hid H
  obtain ⟨t_3, qt_3, H⟩ := H
  go_wp2_with fail
  go_at_call 88
  refine (Go.Proofs.Ytaknldlglfnbfaa.GiIsSheet.C (sheet) A0 c0 _  (Lib.hid (Cells.below M0.out HB.out)) N0 qt_3).mono ?_
  rintro e_t_3 wt_3 ⟨rfl, bt_3⟩
  have HBwt_3 := Lib.hid (Below.step HB.out bt_3)
  clear bt_3
  cases t_3 with
  | false =>
    replace H := let_hid H
    obtain ⟨t_4, ht_4, H⟩ := H
    obtain rfl : t_4 = true := ht_4.symm
    replace H := ite_t H
    cases ret_hid H
    go_wp2_with fail
    go_ret2
    exact ⟨rfl, HBwt_3.out⟩
  | true =>
    replace H := let_hid H
    obtain ⟨t_4, ht_4, H⟩ := H
    obtain rfl : t_4 = false := ht_4.symm
    replace H := ite_f H
    replace H := bind_hid H
    obtain ⟨t_8, qt_8, H⟩ := H
    go_wp2_with fail
    go_at_call 103
    refine (Go.Proofs.Ytaknldlglfnbfaa.GiPointsIn.C (sheet) A0 c0 _  (Lib.hid (Cells.below M0.out HBwt_3.out)) N0 qt_8).mono ?_
    rintro e_t_8 wt_8 ⟨rfl, bt_8⟩
    have HBwt_8 := Lib.hid (Below.step HBwt_3.out bt_8)
    clear bt_8
    cases ret_hid H
    go_wp2_with fail
    go_ret2
    exact ⟨rfl, HBwt_8.out⟩
end Go.Proofs.Ytaknldlglfnbfaa.GiPointsOn
