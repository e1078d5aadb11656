/- loop.example/g01062/spec.l2Rest as a plain function, and the contract of the program's: where the plain one has an answer, the program has it. Conditions: slices read as lists. -/
import Derived.Test.YtdgbigkcophjoaaChecked
import Derived.Test.YtdgbigkcophjoaaGoM
import Derived.Test.YtdgbigkcophjoaaGoRStamp
import Derived.Test.YtdgbigkcophjoaaHelpInt
import Derived.Test.YtdgbigkcophjoaaGsL2Needed
import Derived.WalkKit
import Derived.WalkSpells
import Derived.WalkLawsBesides
import Derived.BigQuiet
import Derived.OwnWalk
import Derived.Deep.LoopGhost
import Derived.Deep.QuietTactic
import Derived.IntWalk
import Derived.Lib.QuietBelow
namespace Go.Proofs.Ytdgbigkcophjoaa.GsL2Rest
set_option linter.unusedVariables false
set_option linter.unusedSimpArgs false
open Go.RowKit
open Go.Proofs.Ytdgbigkcophjoaa.Rowed Go.Proofs.Ytdgbigkcophjoaa.Turn Go.Proofs.Ytdgbigkcophjoaa.Aid Go.Proofs.Ytdgbigkcophjoaa.GoP Go.Proofs.Ytdgbigkcophjoaa.GoM

def P (fuel : Nat) (list : (List Go.Proofs.Ytdgbigkcophjoaa.PlainStamp.St)) (n_1 : Int) (value : Int) (year : Int) : Option (Bool) :=
  Option.bind (Go.Proofs.Ytdgbigkcophjoaa.GsL2Needed.P fuel list value year) fun (t_4 : (List Int)) =>
  Option.bind (idx t_4 value) fun (yt_6 : Int) =>
  letK (yt_6 == n_1) fun (t_9 : Bool) =>
  some t_9

set_option maxRecDepth 100000 in
set_option maxHeartbeats 2000000 in
theorem C (fuel : Nat) (list : (List Go.Proofs.Ytdgbigkcophjoaa.PlainStamp.St)) (n_1 : Int) (value : Int) (year : Int) (A0 : Option Addr) (c0 : Nat)  (w : World) (M0 : Hid (Cells w 4 A0 list.length (Go.Proofs.Ytdgbigkcophjoaa.PlainStamp.flat list))) (N0 : Hid (list.length ≤ 9223372036854775807))  {r : Bool} (H : Hid (P fuel list n_1 value year = some r)) :
    Calls Try.prog 70 #[.slice A0 list.length c0, .int .i64 n_1, .int .i64 value, .int .i64 year] w (Gives (.bool r) w) := by
  have HB := Lib.hid (Below.refl w.heap.size w)
  unfold P at H
  have N0o := N0.out
  go_enter Try.func70, Try.ntmps70
  replace H := bind_hid H
  obtain ⟨t_4, qt_4, H⟩ := H
  go_wp2_with fail
  go_at_call 69
  refine (Go.Proofs.Ytdgbigkcophjoaa.GsL2Needed.C fuel (list) (value) (year) A0 c0 _   (Lib.hid (Cells.below M0.out HB.out)) N0 qt_4).mono ?_
  rintro e_t_4 wt_4 ⟨At_4, ct_4, rfl, ot_4, bt_4⟩
  have Ot_4 := Lib.hid (own_lower ot_4 HB.out.size)
  clear ot_4
  have HBwt_4 := Lib.hid (Below.step HB.out bt_4)
  clear bt_4
  replace H := idx_hid H
  obtain ⟨nt_6, yt_6, et_6, lt_6, gt_6, H⟩ := H
  subst et_6
  obtain ⟨qt_6, Qt_6⟩ := own_some Ot_4.out (by omega)
  subst Qt_6
  obtain ⟨ab_t_6, ao_t_6, zt_6, At_6, z_t_6, ct_6_0⟩ := Go.Proofs.Ytdgbigkcophjoaa.HelpInt.Ints.at_ (own_cells Ot_4.out) (k := nt_6) (by omega)
  obtain rfl := Option.some.inj (gt_6.out.symm.trans z_t_6)
  simp only [Option.some.injEq, Addr.mk.injEq] at At_6
  obtain ⟨rfl, rfl, _⟩ := At_6
  clear z_t_6
  simp only [Nat.zero_add] at ct_6_0
  have b0t_6 : (0 : Int) ≤ (nt_6 : Int) := by omega
  have b1t_6 : (nt_6 : Int) < ((t_4.length : Nat) : Int) := by omega
  have b2t_6 : ((nt_6 : Int)).toNat = nt_6 := by omega
  replace H := let_hid H
  obtain ⟨t_9, ht_9, H⟩ := H
  obtain rfl := ret_hid H
  go_wp2_with fail
  go_ret
  exact ⟨rfl, HBwt_4.out⟩
end Go.Proofs.Ytdgbigkcophjoaa.GsL2Rest
