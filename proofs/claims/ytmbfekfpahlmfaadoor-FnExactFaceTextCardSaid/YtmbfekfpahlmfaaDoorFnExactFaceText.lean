/- FaceText of the program answers as the reference model at every argument: the law returns true at every input that fits the row. No condition of its own. -/
import Derived.Test.YtmbfekfpahlmfaaDoorRows
import Derived.Test.YtmbfekfpahlmfaaDoorCards
import Derived.Test.YtmbfekfpahlmfaaDoorTie
import Derived.WalkKit
import Derived.ProofKit
import Derived.OpenShut
import Derived.ShutString
import Derived.ChangeOld
import Derived.Below
import Derived.Deep.DeepHandedRow
import Derived.Deep.DeepWitnessRowRef
import Derived.LaidMore
import Derived.Test.YtmbfekfpahlmfaaDoorTab
import Derived.Test.YtmbfekfpahlmfaaDoorDoorLaid
import Derived.Test.YtmbfekfpahlmfaaDoorTurn
import Derived.Test.YtmbfekfpahlmfaaDoorAid
import Derived.Test.YtmbfekfpahlmfaaDoorFace
import Derived.Test.YtmbfekfpahlmfaaDoorPlainFace
import Derived.Outline
namespace Go.Proofs.YtmbfekfpahlmfaaDoor.fnExactFaceText
open Go.ChangeShapes Go.WideShapes Go.ChangeAt Go.RowKit
open Go.ChangeMaps (open_string shut_string)
open Go.Proofs.YtmbfekfpahlmfaaDoor.Rowed Go.Proofs.YtmbfekfpahlmfaaDoor.Turn Go.Proofs.YtmbfekfpahlmfaaDoor.Aid Go.Proofs.YtmbfekfpahlmfaaDoor.Tab Go.Proofs.YtmbfekfpahlmfaaDoor.Face Go.Proofs.YtmbfekfpahlmfaaDoor.PlainFace
set_option linter.unusedVariables false

theorem own : ownKnob Tryd.prog.godebug = none := by kernel_rfl
theorem laidOut : laidOutB Tryd.prog = true := by kernel_rfl

/-- THE WALK -/
theorem walk (a0 : Int) (w : World) (w0 : (Lit.int .i64 a0).wf = true) (hL : laidMetH Tryd.prog Rows.fnExactFaceTextRow.laid w) (hsh : w.ShapedOpen Tryd.prog) :
    Calls Tryd.prog 3 #[.int .i64 a0] w fun e w' => e = .returned (.bool true) ∧ Below w.heap.size w w' := by
  have HF0 := Lib.hid w0
  clear w0
  have hT : Hid (Tab w) := Lib.hid (DoorLaid.pow10 hL (by kernel_rfl))
  clear hL hsh
  obtain ⟨⟨r0, r1⟩, hR⟩ : ∃ R, R = faceRes a0 := ⟨_, rfl⟩
  have HS : Hid (∀ W, Calls Tryd.prog 6 #[.int .i64 a0] W (Gives (.tuple #[.string r0, .bool r1]) W)) := Lib.hid (fun W  => by have h := face_spec a0 W; rw [← hR] at h; exact h)
  have HI : Hid (∀ W, Hid (Tab W) → Calls Tryd.prog 7 #[.int .i64 a0] W (Gives (.tuple #[.string r0, .bool r1]) W)) := Lib.hid (fun W  ht => by have h := face_impl a0 W ht; rw [← hR] at h; exact h)
  clear hR
  go_enter Tryd.func3, Tryd.ntmps3
  have B0 : Hid (Below w.heap.size w w) := Lib.hid (Below.refl _ _)
  go_wp2_with fail
  go_at_call 6
  refine (HS.out _).mono ?_
  rintro e w1x ⟨rfl, hB⟩
  have S1 : Hid (w.heap.size ≤ w1x.heap.size) := Lib.hid hB.size
  have B1n := Lib.hid (Below.step B0.out hB)
  clear B0
  clear hB
  go_wp2_with fail
  go_at_call 7
  refine (HI.out _ (tab_below B1n.out hT)).mono ?_
  rintro e w2x ⟨rfl, hB⟩
  have S2 : Hid (w1x.heap.size ≤ w2x.heap.size) := Lib.hid hB.size
  have B2n := Lib.hid (Below.step B1n.out hB)
  clear B1n
  clear hB
  go_wp2_with fail
  go_ret
  exact ⟨rfl, B2n.out⟩

theorem laid_met (os : Os) : laidMetH Tryd.prog Rows.fnExactFaceTextRow.laid ((World.doorLaid Tryd.prog 400 os).forCall (fun _ _ => 0) ⟨#[], #[.int .i64 0], []⟩).memory :=
  laidMetH_of_parts3 (fuel := 8) (laidMet_of_run' 8 (by kernel_rfl) (by kernel_rfl)) (by kernel_rfl) (by kernel_rfl)
theorem reads (os : Os) {H : Type} (enc : TypeId × Value → H) : ∃ places, DataW.whole enc Tryd.prog ((World.doorLaid Tryd.prog 400 os).forCall (fun _ _ => 0) ⟨#[], #[.int .i64 0], []⟩).memory Tryd.f3.params.toList Rows.fnExactFaceTextSpec.vars false (#[.int .i64 0] : Array Value).toList 8 = some ([.lit (.int .i64 0)], [], places) :=
  ⟨[], by kernel_rfl⟩

set_option maxRecDepth 100000 in
theorem lifted (os : Os) (started : os.Started) (H : Type) (enc : TypeId × Value → H) (F : Stop.Interp) :
    ReturnsInHanded {} Tryd.checked os 3 .any ((OpenSpec.ofChange Rows.fnExactFaceTextSpec).preRow enc Tryd.prog Tryd.f3 Rows.fnExactFaceTextRow.domain false Rows.fnExactFaceTextRow.laid) (((OpenSpec.ofChange Rows.fnExactFaceTextSpec).at F).post enc Tryd.prog Tryd.f3 false true false false) := by
  obtain ⟨places, hx⟩ := reads os enc
  refine returnsInHanded_of_row (C := Tryd.checked) (s := OpenSpec.ofChange Rows.fnExactFaceTextSpec) own started (by kernel_rfl) Tryd.func3
    (witness_row_atRef (enc := enc) (C := Tryd.checked) false (World.doorLaid Tryd.prog 400 os) #[.int .i64 0] rfl (by kernel_rfl) (by kernel_rfl) (by kernel_rfl)
      (OpenSpec.preRow_of_cond 8 hx (by kernel_rfl) (fun k hk => by cases hk) (by kernel_rfl) (laid_met os))) ?_
  intro W base args ds gs before hval0 hW hcnd hcond hsz hL hsh _
  have hval : ∀ (j : Nat) t v, Tryd.f3.params[j]? = some t → args[j]? = some v → Value.okWide Tryd.prog W .any base t v := hval0
  have hW' := hW
  obtain ⟨p, q, hA0, hV, rfl, hfz, hnd⟩ := hW
  have hA : DataW.TrodAll enc Tryd.prog W 0 (fun _ => true) true Tryd.f3.params.toList args.toList ds p := hA0
  rw [Tryd.params3] at hA hval
  obtain ⟨v0, vs0, d0, ds0, p0, q0, hargs, rfl, rfl, h0, r0⟩ := trodAll_cons hA
  obtain ⟨rfl, rfl, rfl⟩ := trodAll_nil r0
  obtain rfl : args = #[v0] := by cases args; simp_all
  obtain ⟨rfl, rfl⟩ := trodVars_none hV
  obtain ⟨a0, rfl, rfl, rfl, w0⟩ := open_int Tryd.underlying3 (hval 0 3 v0 rfl rfl) h0
  clear hA0 hval0
  refine (walk a0 W w0 hL hsh).mono fun e W' ⟨he, bel⟩ => ?_
  subst he
  exact ⟨_, rfl, _, _, _, [], _, [], hW', trodAll_mk1 (shut_bool Tryd.underlying4 _), (trodAll_cons_mk (shut_int Tryd.underlying3 w0) trodAll_mk0), rfl, bel.frame _, fun h => by cases h⟩

theorem over : Rows.fnExactFaceTextRow.holds Tryd.pinned (OpenSpec.ofChange Rows.fnExactFaceTextSpec) :=
  OpenClaim.holds_of_cond 3 Tryd.f3 rfl rfl rfl rfl rfl rfl rfl ⟨rfl, rfl, rfl, rfl, rfl⟩ rfl rfl rfl rfl rfl (by kernel_rfl) Tryd.func3 (by kernel_rfl)
    (of_decide_eq_true (by kernel_rfl)) (by unfold Func.isWrapper; first | (rw [if_pos (by decide +kernel)]; kernel_rfl) | (rw [if_neg (by decide +kernel)]; exact ⟨rfl, rfl⟩))
    (fun os started H enc _ F => by rw [OpenClaim.pre_eq_preRow]; exact lifted os started H enc F)

/-- No parameter wants a stand-in; the program's own looks are as the card has them. -/
theorem plain (f : FuncId) (fn : Func) (hf : Tryd.pinned.checked.prog.funcNamed "loop.example/g01062/laws.FnExactFaceText" = some f) (hfn : Tryd.pinned.checked.prog.funcs[f]? = some fn) :
    true = Tryd.pinned.checked.prog.looks [] ∧ ∀ (j : Nat) t, fn.params[j]? = some t → Tryd.pinned.checked.prog.wantsStandIn t = false := by
  obtain rfl : f = 3 := Option.some.inj ((show Tryd.prog.funcNamed "loop.example/g01062/laws.FnExactFaceText" = some 3 by kernel_rfl).symm.trans hf) |>.symm
  obtain rfl : fn = Tryd.f3 := (Option.some.inj (Tryd.func3.symm.trans hfn)).symm
  refine ⟨by kernel_rfl, fun j t ht => ?_⟩
  rw [Tryd.params3] at ht
  have hm : t ∈ [3] := by simpa using Array.mem_of_getElem? ht
  have hall : ([3].all fun u => !Tryd.prog.wantsStandIn u) = true := by kernel_rfl
  exact (show Tryd.prog.wantsStandIn t = false by simpa using List.all_eq_true.1 hall t hm)

/-- THE STATEMENT: THE CARD -/
theorem proved : Rows.FnExactFaceTextCardSaid :=
  Claim7.holds_tied_plain_at .later [] _ _ _ _ over (fun _ h => by cases h) (by kernel_rfl) (fun _ h => by cases h) fnExactFaceText_row_tie rfl ⟨rfl, rfl⟩ (by kernel_rfl) rfl plain (by kernel_rfl)
#print axioms proved
end Go.Proofs.YtmbfekfpahlmfaaDoor.fnExactFaceText
