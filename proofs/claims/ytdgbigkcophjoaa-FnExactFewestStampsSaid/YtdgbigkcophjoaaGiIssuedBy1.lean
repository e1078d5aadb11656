/- loop.example/g01062/impl.IssuedBy$1 as a plain function, and the contract of the program's: where the plain one has an answer, the program has it. Conditions: slices read as lists. -/
import Derived.Test.YtdgbigkcophjoaaChecked
import Derived.Test.YtdgbigkcophjoaaGoM
import Derived.Test.YtdgbigkcophjoaaGoRStamp
import Derived.WalkKit
import Derived.WalkSpells
import Derived.WalkLawsBesides
import Derived.BigQuiet
import Derived.OwnWalk
import Derived.Deep.LoopGhost
import Derived.Deep.QuietTactic
import Derived.IntWalk
import Derived.Lib.QuietBelow
namespace Go.Proofs.Ytdgbigkcophjoaa.GiIssuedBy1
set_option linter.unusedVariables false
set_option linter.unusedSimpArgs false
open Go.RowKit
open Go.Proofs.Ytdgbigkcophjoaa.Rowed Go.Proofs.Ytdgbigkcophjoaa.Turn Go.Proofs.Ytdgbigkcophjoaa.Aid Go.Proofs.Ytdgbigkcophjoaa.GoP Go.Proofs.Ytdgbigkcophjoaa.GoM

def P (s_0 : Go.Proofs.Ytdgbigkcophjoaa.PlainStamp.St) (hq0 : Int) : Option (Bool) :=
  unStamp s_0 fun (s_0_id : Int) (s_0_face : Int) (s_0_color : Int) (s_0_year : Int) =>
  letK (decide (s_0_year ≤ hq0)) fun (t_5 : Bool) =>
  some t_5

set_option maxRecDepth 100000 in
set_option maxHeartbeats 2000000 in
theorem C (s_0 : Go.Proofs.Ytdgbigkcophjoaa.PlainStamp.St) (hq0 : Int)  (gq0 : Nat) (w : World)  (Fq0h : Hid (w.cell? ⟨gq0, 0, none⟩ = some (.int .i64 hq0))) {r : Bool} (H : Hid (P s_0 hq0 = some r)) :
    Calls Try.prog 75 #[s_0.val, .pointer (some ⟨gq0, 0, none⟩)] w (Gives (.bool r) w) := by
  have HB := Lib.hid (Below.refl w.heap.size w)
  unfold P at H
  obtain ⟨s_0_id, s_0_face, s_0_color, s_0_year⟩ := s_0
  replace H := unStamp_hid H
  unfold Go.Proofs.Ytdgbigkcophjoaa.PlainStamp.St.val
  have Fq0 := Fq0h.out
  go_enter Try.func75, Try.ntmps75
  obtain ⟨w_s_0, hw_s_0⟩ : ∃ x, w.alloc (.cells #[.int .i64 s_0_id, .int .i64 s_0_face, .int .i64 s_0_color, .int .i64 s_0_year] 73) = x := ⟨_, rfl⟩
  have bw_s_0 : Below w.heap.size w w_s_0 := by rw [← hw_s_0]; exact (Below.refl _ _).alloc (Nat.le_refl _) _
  have HBw_s_0 := Lib.hid (Below.step HB.out bw_s_0)
  have Fq0__158 := cell_below bw_s_0 Fq0
  clear bw_s_0
  have ks_0_0 : w_s_0.cell? ⟨w.heap.size, 0, none⟩ = some (.int .i64 s_0_id) := by rw [← hw_s_0]; exact box_new _ _ _ 0 _ rfl
  have ks_0_1 : w_s_0.cell? ⟨w.heap.size, 1, none⟩ = some (.int .i64 s_0_face) := by rw [← hw_s_0]; exact box_new _ _ _ 1 _ rfl
  have ks_0_2 : w_s_0.cell? ⟨w.heap.size, 2, none⟩ = some (.int .i64 s_0_color) := by rw [← hw_s_0]; exact box_new _ _ _ 2 _ rfl
  have ks_0_3 : w_s_0.cell? ⟨w.heap.size, 3, none⟩ = some (.int .i64 s_0_year) := by rw [← hw_s_0]; exact box_new _ _ _ 3 _ rfl
  replace H := let_hid H
  obtain ⟨t_5, ht_5, H⟩ := H
  obtain rfl := ret_hid H
  go_wp2_with fail
  go_ret
  exact ⟨rfl, HBw_s_0.out⟩
end Go.Proofs.Ytdgbigkcophjoaa.GiIssuedBy1
