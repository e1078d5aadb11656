/- For all a, UndoPosition answers as the reference does. -/
import Derived.Test.YtpkolplcleijlaaRows
import Derived.WalkKit
import Derived.ProofKit
import Derived.OpenShut
import Derived.ShutString
import Derived.ChangeOld
import Derived.Below
import Derived.Deep.DeepHandedRow
import Derived.Deep.DeepWitnessRowRef
import Derived.LaidMore
import Derived.Test.YtpkolplcleijlaaTurn
import Derived.Test.YtpkolplcleijlaaAid
import Derived.Test.YtpkolplcleijlaaQPos
import Derived.Outline
namespace Go.Proofs.Ytpkolplcleijlaa.fnExactUndoPosition
open Go.ChangeShapes Go.WideShapes Go.ChangeAt Go.RowKit
open Go.ChangeMaps (open_string shut_string)
open Go.Proofs.Ytpkolplcleijlaa.Rowed Go.Proofs.Ytpkolplcleijlaa.Turn Go.Proofs.Ytpkolplcleijlaa.Aid Go.Proofs.Ytpkolplcleijlaa.QPos
set_option linter.unusedVariables false

theorem own : ownKnob Try.prog.godebug = none := by kernel_rfl
theorem laidOut : laidOutB Try.prog = true := by kernel_rfl

/-- THE WALK -/
theorem walk (a0 : Int) (w : World) (w0 : (Lit.int .i64 a0).wf = true) (hL : laidMetH Try.prog Rows.fnExactUndoPositionRow.laid w) (hsh : w.ShapedOpen Try.prog) :
    Calls Try.prog 11 #[.int .i64 a0] w fun e w' => e = .returned (.bool true) ∧ Below w.heap.size w w' := by
  have HF0 := Lib.hid w0
  clear w0
  clear hL hsh
  obtain ⟨⟨r0, r1⟩, hR⟩ : ∃ R, R = undoRes a0 := ⟨_, rfl⟩
  have HS : Hid (∀ W, Calls Try.prog 24 #[.int .i64 a0] W (Gives (.tuple #[.int .i64 r0, .bool r1]) W)) := Lib.hid (fun W  => by have h := undo_spec a0 W; rw [← hR] at h; exact h)
  have HI : Hid (∀ W, Calls Try.prog 23 #[.int .i64 a0] W (Gives (.tuple #[.int .i64 r0, .bool r1]) W)) := Lib.hid (fun W  => by have h := undo_impl a0 W; rw [← hR] at h; exact h)
  clear hR
  go_enter Try.func11, Try.ntmps11
  have B0 : Hid (Below w.heap.size w w) := Lib.hid (Below.refl _ _)
  go_wp2_with fail
  go_at_call 24
  refine (HS.out _).mono ?_
  rintro e w1x ⟨rfl, hB⟩
  have S1 : Hid (w.heap.size ≤ w1x.heap.size) := Lib.hid hB.size
  have B1n := Lib.hid (Below.step B0.out hB)
  clear B0
  clear hB
  go_wp2_with fail
  go_at_call 23
  refine (HI.out _).mono ?_
  rintro e w2x ⟨rfl, hB⟩
  have S2 : Hid (w1x.heap.size ≤ w2x.heap.size) := Lib.hid hB.size
  have B2n := Lib.hid (Below.step B1n.out hB)
  clear B1n
  clear hB
  go_wp2_with fail
  go_ret
  exact ⟨rfl, B2n.out⟩

theorem laid_met (os : Os) : laidMetH Try.prog Rows.fnExactUndoPositionRow.laid ((World.holding Try.prog os ⟨#[], #[], []⟩).forCall (fun _ _ => 0) ⟨#[], #[.int .i64 0], []⟩).memory :=
  laidMetH_of_parts3 (fuel := 8) (laidMet_of_run' 8 (by kernel_rfl) (by kernel_rfl)) (by kernel_rfl) (by kernel_rfl)
theorem reads (os : Os) {H : Type} (enc : TypeId × Value → H) : ∃ places, DataW.whole enc Try.prog ((World.holding Try.prog os ⟨#[], #[], []⟩).forCall (fun _ _ => 0) ⟨#[], #[.int .i64 0], []⟩).memory Try.f11.params.toList Rows.fnExactUndoPositionSpec.vars false (#[.int .i64 0] : Array Value).toList 8 = some ([.lit (.int .i64 0)], [], places) :=
  ⟨[], by kernel_rfl⟩

set_option maxRecDepth 100000 in
theorem lifted (os : Os) (started : os.Started) (H : Type) (enc : TypeId × Value → H) (F : Stop.Interp) :
    ReturnsInHanded {} Try.checked os 11 .any ((OpenSpec.ofChange Rows.fnExactUndoPositionSpec).preRow enc Try.prog Try.f11 Rows.fnExactUndoPositionRow.domain false Rows.fnExactUndoPositionRow.laid) (((OpenSpec.ofChange Rows.fnExactUndoPositionSpec).at F).post enc Try.prog Try.f11 false true false false) := by
  obtain ⟨places, hx⟩ := reads os enc
  refine returnsInHanded_of_row (C := Try.checked) (s := OpenSpec.ofChange Rows.fnExactUndoPositionSpec) own started (by kernel_rfl) Try.func11
    (witness_row_atRef (enc := enc) (C := Try.checked) false (World.holding Try.prog os ⟨#[], #[], []⟩) #[.int .i64 0] rfl (by kernel_rfl) (by kernel_rfl) (by kernel_rfl)
      (OpenSpec.preRow_of_cond 8 hx (by kernel_rfl) (fun k hk => by cases hk) (by kernel_rfl) (laid_met os))) ?_
  intro W base args ds gs before hval0 hW hcnd hcond hsz hL hsh _
  have hval : ∀ (j : Nat) t v, Try.f11.params[j]? = some t → args[j]? = some v → Value.okWide Try.prog W .any base t v := hval0
  have hW' := hW
  obtain ⟨p, q, hA0, hV, rfl, hfz, hnd⟩ := hW
  have hA : DataW.TrodAll enc Try.prog W 0 (fun _ => true) true Try.f11.params.toList args.toList ds p := hA0
  rw [Try.params11] at hA hval
  obtain ⟨v0, vs0, d0, ds0, p0, q0, hargs, rfl, rfl, h0, r0⟩ := trodAll_cons hA
  obtain ⟨rfl, rfl, rfl⟩ := trodAll_nil r0
  obtain rfl : args = #[v0] := by cases args; simp_all
  obtain ⟨rfl, rfl⟩ := trodVars_none hV
  obtain ⟨a0, rfl, rfl, rfl, w0⟩ := open_int Try.underlying3 (hval 0 3 v0 rfl rfl) h0
  clear hA0 hval0
  refine (walk a0 W w0 hL hsh).mono fun e W' ⟨he, bel⟩ => ?_
  subst he
  exact ⟨_, rfl, _, _, _, [], _, [], hW', trodAll_mk1 (shut_bool Try.underlying4 _), (trodAll_cons_mk (shut_int Try.underlying3 w0) trodAll_mk0), rfl, bel.frame _, fun h => by cases h⟩

theorem over : Rows.fnExactUndoPositionRow.holds Try.pinned (OpenSpec.ofChange Rows.fnExactUndoPositionSpec) :=
  OpenClaim.holds_of_cond 11 Try.f11 rfl rfl rfl rfl rfl rfl rfl ⟨rfl, rfl, rfl, rfl, rfl⟩ rfl rfl rfl rfl rfl (by kernel_rfl) Try.func11 (by kernel_rfl)
    (of_decide_eq_true (by kernel_rfl)) (by unfold Func.isWrapper; first | (rw [if_pos (by decide +kernel)]; kernel_rfl) | (rw [if_neg (by decide +kernel)]; exact ⟨rfl, rfl⟩))
    (fun os started H enc _ F => by rw [OpenClaim.pre_eq_preRow]; exact lifted os started H enc F)

/-- THE STATEMENT -/
theorem proved : Rows.FnExactUndoPositionSaid :=
  over
#print axioms proved
end Go.Proofs.Ytpkolplcleijlaa.fnExactUndoPosition
