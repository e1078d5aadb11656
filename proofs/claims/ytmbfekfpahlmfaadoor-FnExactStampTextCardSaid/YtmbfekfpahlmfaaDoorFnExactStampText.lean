/- StampText of the program answers as the reference model at every argument: the law returns true at every input that fits the row. No condition of its own. -/
import Derived.Test.YtmbfekfpahlmfaaDoorRows
import Derived.Test.YtmbfekfpahlmfaaDoorCards
import Derived.Test.YtmbfekfpahlmfaaDoorTie
import Derived.WalkKit
import Derived.ProofKit
import Derived.OpenShut
import Derived.ShutString
import Derived.ChangeOld
import Derived.Below
import Derived.Deep.DeepHandedRow
import Derived.Deep.DeepWitnessRowRef
import Derived.LaidMore
import Derived.Test.YtmbfekfpahlmfaaDoorRStamp
import Derived.Test.YtmbfekfpahlmfaaDoorTab
import Derived.Test.YtmbfekfpahlmfaaDoorDoorLaid
import Derived.Test.YtmbfekfpahlmfaaDoorTurn
import Derived.Test.YtmbfekfpahlmfaaDoorAid
import Derived.Test.YtmbfekfpahlmfaaDoorStext
import Derived.Test.YtmbfekfpahlmfaaDoorPlainStext
import Derived.Outline
import Derived.Test.YtmbfekfpahlmfaaDoorOpenStamp
namespace Go.Proofs.YtmbfekfpahlmfaaDoor.fnExactStampText
open Go.ChangeShapes Go.WideShapes Go.ChangeAt Go.RowKit
open Go.ChangeMaps (open_string shut_string)
open Go.Proofs.YtmbfekfpahlmfaaDoor.Rowed Go.Proofs.YtmbfekfpahlmfaaDoor.Turn Go.Proofs.YtmbfekfpahlmfaaDoor.Aid Go.Proofs.YtmbfekfpahlmfaaDoor.Tab Go.Proofs.YtmbfekfpahlmfaaDoor.Stext Go.Proofs.YtmbfekfpahlmfaaDoor.PlainStext
open Go.Proofs.YtmbfekfpahlmfaaDoor.OpenStamp Go.Proofs.YtmbfekfpahlmfaaDoor.PlainStamp
set_option linter.unusedVariables false

theorem own : ownKnob Tryd.prog.godebug = none := by kernel_rfl
theorem laidOut : laidOutB Tryd.prog = true := by kernel_rfl

/-- THE WALK -/
theorem walk (a0 : St) (w : World) (w0 : a0.fits) (hL : laidMetH Tryd.prog Rows.fnExactStampTextRow.laid w) (hsh : w.ShapedOpen Tryd.prog) :
    Calls Tryd.prog 4 #[a0.val] w fun e w' => e = .returned (.bool true) ∧ Below w.heap.size w w' := by
  have HF0 := Lib.hid w0
  clear w0
  have hT : Hid (Tab w) := Lib.hid (DoorLaid.pow10 hL (by kernel_rfl))
  clear hL hsh
  obtain ⟨⟨r0, r1⟩, hR⟩ : ∃ R, R = textRes a0 := ⟨_, rfl⟩
  have HS : Hid (∀ W, Calls Tryd.prog 8 #[a0.val] W (Gives (.tuple #[.string r0, .bool r1]) W)) := Lib.hid (fun W  => by have h := stext_spec a0 W; rw [← hR] at h; exact h)
  have HI : Hid (∀ W, Hid (Tab W) → Calls Tryd.prog 10 #[a0.val] W (Gives (.tuple #[.string r0, .bool r1]) W)) := Lib.hid (fun W  ht => by have h := stext_impl a0 W ht; rw [← hR] at h; exact h)
  clear hR
  have hbox0 : Cells (w.alloc (.cells #[.int .i64 a0.id, .int .i64 a0.face, .int .i64 a0.color, .int .i64 a0.year] 26)) 4 (some ⟨w.heap.size, 0, none⟩) 1 a0.cells := OpenStamp.box_new _ _ _
  have hbb0 : Below w.heap.size w (w.alloc (.cells #[.int .i64 a0.id, .int .i64 a0.face, .int .i64 a0.color, .int .i64 a0.year] 26)) := (Below.refl _ _).alloc (Nat.le_refl _) _
  obtain ⟨wb0, hwb0⟩ : ∃ x, w.alloc (.cells #[.int .i64 a0.id, .int .i64 a0.face, .int .i64 a0.color, .int .i64 a0.year] 26) = x := ⟨_, rfl⟩
  rw [hwb0] at hbox0 hbb0
  have BX0 := Lib.hid (Rd.came hbox0)
  have BB0 := Lib.hid hbb0
  clear hbox0 hbb0
  unfold St.val
  go_enter Tryd.func4, Tryd.ntmps4
  have B0 := Lib.hid (BB0.out)
  have SB0 : Hid (w.heap.size ≤ wb0.heap.size) := Lib.hid BB0.out.size
  clear BB0
  obtain ⟨c0, c1, c2, c3⟩ := OpenStamp.box_ BX0.out.cells
  go_wp2_with fail
  go_at_call 9
  refine (RStamp.toOne_any a0 _).mono ?_
  rintro e w1x ⟨rfl, hB⟩
  clear c0 c1 c2 c3
  have S1 : Hid (wb0.heap.size ≤ w1x.heap.size) := Lib.hid hB.size
  have BX0_1 := Lib.hid (BX0.out.below hB)
  have B1n := Lib.hid (Below.step B0.out hB)
  clear BX0 B0
  clear hB
  go_wp2_with fail
  go_at_call 8
  refine (HS.out _).mono ?_
  rintro e w2x ⟨rfl, hB⟩
  have S2 : Hid (w1x.heap.size ≤ w2x.heap.size) := Lib.hid hB.size
  have BX0_2 := Lib.hid (BX0_1.out.below hB)
  have B2n := Lib.hid (Below.step B1n.out hB)
  clear BX0_1 B1n
  clear hB
  obtain ⟨c0, c1, c2, c3⟩ := OpenStamp.box_ BX0_2.out.cells
  go_wp2_with fail
  go_at_call 9
  refine (RStamp.toOne_any a0 _).mono ?_
  rintro e w3x ⟨rfl, hB⟩
  clear c0 c1 c2 c3
  have S3 : Hid (w2x.heap.size ≤ w3x.heap.size) := Lib.hid hB.size
  have B3n := Lib.hid (Below.step B2n.out hB)
  clear BX0_2 B2n
  clear hB
  go_wp2_with fail
  go_at_call 10
  refine (HI.out _ (tab_below B3n.out hT)).mono ?_
  rintro e w4x ⟨rfl, hB⟩
  have S4 : Hid (w3x.heap.size ≤ w4x.heap.size) := Lib.hid hB.size
  have B4n := Lib.hid (Below.step B3n.out hB)
  clear B3n
  clear hB
  go_wp2_with fail
  go_ret
  exact ⟨rfl, B4n.out⟩

theorem laid_met (os : Os) : laidMetH Tryd.prog Rows.fnExactStampTextRow.laid ((World.doorLaid Tryd.prog 400 os).forCall (fun _ _ => 0) ⟨#[], #[.agg #[.int .i64 0, .int .i64 0, .int .i64 0, .int .i64 0]], []⟩).memory :=
  laidMetH_of_parts3 (fuel := 8) (laidMet_of_run' 8 (by kernel_rfl) (by kernel_rfl)) (by kernel_rfl) (by kernel_rfl)
theorem reads (os : Os) {H : Type} (enc : TypeId × Value → H) : ∃ places, DataW.whole enc Tryd.prog ((World.doorLaid Tryd.prog 400 os).forCall (fun _ _ => 0) ⟨#[], #[.agg #[.int .i64 0, .int .i64 0, .int .i64 0, .int .i64 0]], []⟩).memory Tryd.f4.params.toList Rows.fnExactStampTextSpec.vars false (#[.agg #[.int .i64 0, .int .i64 0, .int .i64 0, .int .i64 0]] : Array Value).toList 8 = some ([.agg [.lit (.int .i64 0), .lit (.int .i64 0), .lit (.int .i64 0), .lit (.int .i64 0)]], [], places) :=
  ⟨[], by kernel_rfl⟩

set_option maxRecDepth 100000 in
theorem lifted (os : Os) (started : os.Started) (H : Type) (enc : TypeId × Value → H) (F : Stop.Interp) :
    ReturnsInHanded {} Tryd.checked os 4 .any ((OpenSpec.ofChange Rows.fnExactStampTextSpec).preRow enc Tryd.prog Tryd.f4 Rows.fnExactStampTextRow.domain false Rows.fnExactStampTextRow.laid) (((OpenSpec.ofChange Rows.fnExactStampTextSpec).at F).post enc Tryd.prog Tryd.f4 false true false false) := by
  obtain ⟨places, hx⟩ := reads os enc
  refine returnsInHanded_of_row (C := Tryd.checked) (s := OpenSpec.ofChange Rows.fnExactStampTextSpec) own started (by kernel_rfl) Tryd.func4
    (witness_row_atRef (enc := enc) (C := Tryd.checked) false (World.doorLaid Tryd.prog 400 os) #[.agg #[.int .i64 0, .int .i64 0, .int .i64 0, .int .i64 0]] rfl (by kernel_rfl) (by kernel_rfl) (by kernel_rfl)
      (OpenSpec.preRow_of_cond 8 hx (by kernel_rfl) (fun k hk => by cases hk) (by kernel_rfl) (laid_met os))) ?_
  intro W base args ds gs before hval0 hW hcnd hcond hsz hL hsh _
  have hval : ∀ (j : Nat) t v, Tryd.f4.params[j]? = some t → args[j]? = some v → Value.okWide Tryd.prog W .any base t v := hval0
  have hW' := hW
  obtain ⟨p, q, hA0, hV, rfl, hfz, hnd⟩ := hW
  have hA : DataW.TrodAll enc Tryd.prog W 0 (fun _ => true) true Tryd.f4.params.toList args.toList ds p := hA0
  rw [Tryd.params4] at hA hval
  obtain ⟨v0, vs0, d0, ds0, p0, q0, hargs, rfl, rfl, h0, r0⟩ := trodAll_cons hA
  obtain ⟨rfl, rfl, rfl⟩ := trodAll_nil r0
  obtain rfl : args = #[v0] := by cases args; simp_all
  obtain ⟨rfl, rfl⟩ := trodVars_none hV
  obtain ⟨a0, rfl, w0⟩ := open_stamp (hval 0 26 v0 rfl rfl) h0
  have k0 := h0
  have lt0 : ∀ x ∈ p0, x.block < W.heap.size := by obtain ⟨m, hm⟩ := k0; exact DataW.trod_lt m _ _ _ hm
  clear hA0 hval0
  refine (walk a0 W w0 hL hsh).mono fun e W' ⟨he, bel⟩ => ?_
  subst he
  exact ⟨_, rfl, _, _, _, [], _, [], hW', trodAll_mk1 (shut_bool Tryd.underlying4 _), (trodAll_cons_mk (Below.trod laidOut (by kernel_rfl) (of_decide_eq_true (by kernel_rfl)) k0 bel lt0) trodAll_mk0), rfl, bel.frame _, fun h => by cases h⟩

theorem over : Rows.fnExactStampTextRow.holds Tryd.pinned (OpenSpec.ofChange Rows.fnExactStampTextSpec) :=
  OpenClaim.holds_of_cond 4 Tryd.f4 rfl rfl rfl rfl rfl rfl rfl ⟨rfl, rfl, rfl, rfl, rfl⟩ rfl rfl rfl rfl rfl (by kernel_rfl) Tryd.func4 (by kernel_rfl)
    (of_decide_eq_true (by kernel_rfl)) (by unfold Func.isWrapper; first | (rw [if_pos (by decide +kernel)]; kernel_rfl) | (rw [if_neg (by decide +kernel)]; exact ⟨rfl, rfl⟩))
    (fun os started H enc _ F => by rw [OpenClaim.pre_eq_preRow]; exact lifted os started H enc F)

/-- No parameter wants a stand-in; the program's own looks are as the card has them. -/
theorem plain (f : FuncId) (fn : Func) (hf : Tryd.pinned.checked.prog.funcNamed "loop.example/g01062/laws.FnExactStampText" = some f) (hfn : Tryd.pinned.checked.prog.funcs[f]? = some fn) :
    true = Tryd.pinned.checked.prog.looks [] ∧ ∀ (j : Nat) t, fn.params[j]? = some t → Tryd.pinned.checked.prog.wantsStandIn t = false := by
  obtain rfl : f = 4 := Option.some.inj ((show Tryd.prog.funcNamed "loop.example/g01062/laws.FnExactStampText" = some 4 by kernel_rfl).symm.trans hf) |>.symm
  obtain rfl : fn = Tryd.f4 := (Option.some.inj (Tryd.func4.symm.trans hfn)).symm
  refine ⟨by kernel_rfl, fun j t ht => ?_⟩
  rw [Tryd.params4] at ht
  have hm : t ∈ [26] := by simpa using Array.mem_of_getElem? ht
  have hall : ([26].all fun u => !Tryd.prog.wantsStandIn u) = true := by kernel_rfl
  exact (show Tryd.prog.wantsStandIn t = false by simpa using List.all_eq_true.1 hall t hm)

/-- THE STATEMENT: THE CARD -/
theorem proved : Rows.FnExactStampTextCardSaid :=
  Claim7.holds_tied_plain_at .later [] _ _ _ _ over (fun _ h => by cases h) (by kernel_rfl) (fun _ h => by cases h) fnExactStampText_row_tie rfl ⟨rfl, rfl⟩ (by kernel_rfl) rfl plain (by kernel_rfl)
#print axioms proved
end Go.Proofs.YtmbfekfpahlmfaaDoor.fnExactStampText
