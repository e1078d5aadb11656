/- loop.example/g01062/spec.StampText as a plain function, and the contract of the program's: where the plain one has an answer, the program has it. Conditions: slices read as lists. -/
import Derived.Test.YtfnghemjonkjiaaDoorChecked
import Derived.Test.YtfnghemjonkjiaaDoorGoM
import Derived.Test.YtfnghemjonkjiaaDoorGoRStamp
import Derived.Test.YtfnghemjonkjiaaDoorGsL2Stamp
import Derived.Test.YtfnghemjonkjiaaDoorGsL2Text
import Derived.WalkKit
import Derived.WalkSpells
import Derived.WalkLawsBesides
import Derived.BigQuiet
import Derived.OwnWalk
import Derived.Deep.LoopGhost
import Derived.Deep.QuietTactic
import Derived.IntWalk
import Derived.Lib.QuietBelow
namespace Go.Proofs.YtfnghemjonkjiaaDoor.GsStampText
set_option linter.unusedVariables false
set_option linter.unusedSimpArgs false
open Go.RowKit
open Go.Proofs.YtfnghemjonkjiaaDoor.Rowed Go.Proofs.YtfnghemjonkjiaaDoor.Turn Go.Proofs.YtfnghemjonkjiaaDoor.Aid Go.Proofs.YtfnghemjonkjiaaDoor.GoP Go.Proofs.YtfnghemjonkjiaaDoor.GoM

def P (s_0 : Go.Proofs.YtfnghemjonkjiaaDoor.PlainStamp.St) : Option (ByteArray × Bool) :=
  unStamp s_0 fun (s_0_id : Int) (s_0_face : Int) (s_0_color : Int) (s_0_year : Int) =>
  Option.bind (Go.Proofs.YtfnghemjonkjiaaDoor.GsL2Stamp.P (Go.Proofs.YtfnghemjonkjiaaDoor.PlainStamp.St.mk s_0_id s_0_face s_0_color s_0_year)) fun (t_4 : Bool) =>
  letK (!t_4) fun (t_5 : Bool) =>
  iteK t_5
  (some ((⟨#[]⟩ : ByteArray), false))
  (Option.bind (Go.Proofs.YtfnghemjonkjiaaDoor.GsL2Text.P (Go.Proofs.YtfnghemjonkjiaaDoor.PlainStamp.St.mk s_0_id s_0_face s_0_color s_0_year)) fun (t_9 : ByteArray) =>
  some (t_9, true))

set_option maxRecDepth 100000 in
set_option maxHeartbeats 2000000 in
theorem C (s_0 : Go.Proofs.YtfnghemjonkjiaaDoor.PlainStamp.St)   (w : World)   {r0 : ByteArray} {r1 : Bool} (H : Hid (P s_0 = some (r0, r1))) :
    Calls Tryd.prog 4 #[s_0.val] w (Gives (.tuple #[.string r0, .bool r1]) w) := by
  have HB := Lib.hid (Below.refl w.heap.size w)
  unfold P at H
  obtain ⟨s_0_id, s_0_face, s_0_color, s_0_year⟩ := s_0
  replace H := unStamp_hid H
  unfold Go.Proofs.YtfnghemjonkjiaaDoor.PlainStamp.St.val
  go_enter Tryd.func4, Tryd.ntmps4
  obtain ⟨w_s_0, hw_s_0⟩ : ∃ x, w.alloc (.cells #[.int .i64 s_0_id, .int .i64 s_0_face, .int .i64 s_0_color, .int .i64 s_0_year] 26) = x := ⟨_, rfl⟩
  have bw_s_0 : Below w.heap.size w w_s_0 := by rw [← hw_s_0]; exact (Below.refl _ _).alloc (Nat.le_refl _) _
  have HBw_s_0 := Lib.hid (Below.step HB.out bw_s_0)
  clear bw_s_0
  have ks_0_0 : w_s_0.cell? ⟨w.heap.size, 0, none⟩ = some (.int .i64 s_0_id) := by rw [← hw_s_0]; exact box_new _ _ _ 0 _ rfl
  have ks_0_1 : w_s_0.cell? ⟨w.heap.size, 1, none⟩ = some (.int .i64 s_0_face) := by rw [← hw_s_0]; exact box_new _ _ _ 1 _ rfl
  have ks_0_2 : w_s_0.cell? ⟨w.heap.size, 2, none⟩ = some (.int .i64 s_0_color) := by rw [← hw_s_0]; exact box_new _ _ _ 2 _ rfl
  have ks_0_3 : w_s_0.cell? ⟨w.heap.size, 3, none⟩ = some (.int .i64 s_0_year) := by rw [← hw_s_0]; exact box_new _ _ _ 3 _ rfl
  replace H := bind_hid H
  obtain ⟨t_4, qt_4, H⟩ := H
  go_wp2_with fail
  go_at_call 7
  refine (Go.Proofs.YtfnghemjonkjiaaDoor.GsL2Stamp.C ((Go.Proofs.YtfnghemjonkjiaaDoor.PlainStamp.St.mk s_0_id s_0_face s_0_color s_0_year))  _    qt_4).mono ?_
  rintro e_t_4 wt_4 ⟨rfl, bt_4⟩
  have HBwt_4 := Lib.hid (Below.step HBw_s_0.out bt_4)
  replace ks_0_0 := cell_below bt_4 ks_0_0
  replace ks_0_1 := cell_below bt_4 ks_0_1
  replace ks_0_2 := cell_below bt_4 ks_0_2
  replace ks_0_3 := cell_below bt_4 ks_0_3
  clear bt_4
  cases t_4 with
  | false =>
    replace H := let_hid H
    obtain ⟨t_5, ht_5, H⟩ := H
    obtain rfl : t_5 = true := ht_5.symm
    replace H := ite_t H
    cases ret_hid H
    go_wp2_with fail
    go_ret2
    exact ⟨rfl, HBwt_4.out⟩
  | true =>
    replace H := let_hid H
    obtain ⟨t_5, ht_5, H⟩ := H
    obtain rfl : t_5 = false := ht_5.symm
    replace H := ite_f H
    replace H := bind_hid H
    obtain ⟨t_9, qt_9, H⟩ := H
    go_wp2_with fail
    go_at_call 8
    refine (Go.Proofs.YtfnghemjonkjiaaDoor.GsL2Text.C ((Go.Proofs.YtfnghemjonkjiaaDoor.PlainStamp.St.mk s_0_id s_0_face s_0_color s_0_year))  _    qt_9).mono ?_
    rintro e_t_9 wt_9 ⟨rfl, bt_9⟩
    have HBwt_9 := Lib.hid (Below.step HBwt_4.out bt_9)
    replace ks_0_0 := cell_below bt_9 ks_0_0
    replace ks_0_1 := cell_below bt_9 ks_0_1
    replace ks_0_2 := cell_below bt_9 ks_0_2
    replace ks_0_3 := cell_below bt_9 ks_0_3
    clear bt_9
    cases ret_hid H
    go_wp2_with fail
    go_ret2
    exact ⟨rfl, HBwt_9.out⟩
end Go.Proofs.YtfnghemjonkjiaaDoor.GsStampText
