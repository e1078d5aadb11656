/- A valid sighting's text is its id, its town, its year and its traits; one that is not valid has no text. -/
import Derived.Test.YtpaakpbbahbhcaaDoorRows
import Derived.Test.YtpaakpbbahbhcaaDoorCards
import Derived.Test.YtpaakpbbahbhcaaDoorTie
import Derived.WalkKit
import Derived.ProofKit
import Derived.OpenShut
import Derived.ShutString
import Derived.ChangeOld
import Derived.Below
import Derived.Deep.DeepHandedRow
import Derived.Deep.DeepWitnessRowRef
import Derived.LaidMore
import Derived.Test.YtpaakpbbahbhcaaDoorGlFnExactSightingText
import Derived.Test.YtpaakpbbahbhcaaDoorTurn
import Derived.Outline
import Derived.Test.YtpaakpbbahbhcaaDoorTab
import Derived.Test.YtpaakpbbahbhcaaDoorDoorLaid
import Derived.Test.YtpaakpbbahbhcaaDoorQ13One
import Derived.Test.YtpaakpbbahbhcaaDoorPSighting
import Derived.Test.YtpaakpbbahbhcaaDoorQL13Text
import Derived.Test.YtpaakpbbahbhcaaDoorOpenNest
namespace Go.Proofs.YtpaakpbbahbhcaaDoor.fnExactSightingText
open Go.ChangeShapes Go.WideShapes Go.ChangeAt Go.RowKit
open Go.ChangeMaps (open_string shut_string)
open Go.RowKit
open Go.Proofs.YtpaakpbbahbhcaaDoor.Rowed Go.Proofs.YtpaakpbbahbhcaaDoor.Turn Go.Proofs.YtpaakpbbahbhcaaDoor.GoM Go.Proofs.YtpaakpbbahbhcaaDoor.Q13One Go.Proofs.YtpaakpbbahbhcaaDoor.PSighting Go.Proofs.YtpaakpbbahbhcaaDoor.QL13Text
set_option linter.unusedVariables false

theorem own : ownKnob Tryd.prog.godebug = none := by kernel_rfl
theorem laidOut : laidOutB Tryd.prog = true := by kernel_rfl

/-- THE WALK -/
theorem walk (a0_0 : Int) (a0_1 : Int) (a0_2 : ByteArray) (a0_3 : Option Addr) (len0_3 cap0_3 : Nat) (z0_3 : List Int) (w : World) (w0_0 : (Lit.int .i64 a0_0).wf = true) (w0_1 : (Lit.int .i64 a0_1).wf = true) (w0_2 : a0_2.size ≤ maxLen) (w0_3 : Cells w 1 a0_3 len0_3 (z0_3.map (Value.int .i64)) ∧ z0_3.length = len0_3 ∧ len0_3 ≤ maxLen ∧ ∀ n ∈ z0_3, (Lit.int .i64 n).wf = true) (hL : laidMetH Tryd.prog Rows.fnExactSightingTextRow.laid w) (hsh : w.ShapedOpen Tryd.prog) :
    Calls Tryd.prog 3 #[.agg #[.int .i64 a0_0, .int .i64 a0_1, .string a0_2, .slice a0_3 len0_3 cap0_3]] w fun e w' => e = .returned (.bool true) ∧ Below w.heap.size w w' := by
  obtain ⟨hc0_3, hn0_3, hl0_3, hf0_3⟩ := w0_3
  obtain rfl := hn0_3
  have HC0_3 := Lib.hid hc0_3
  have HF0_3 := Lib.hid hf0_3
  obtain ⟨y0_3, rfl⟩ : ∃ y, y = z0_3 := ⟨_, rfl⟩
  clear hc0_3 hf0_3
  unfold maxLen at hl0_3
  have hT : Hid (Go.Proofs.YtpaakpbbahbhcaaDoor.Tab.Tab w) := Lib.hid (Go.Proofs.YtpaakpbbahbhcaaDoor.DoorLaid.pow10 hL (by kernel_rfl))
  clear hL hsh
  exact Go.Proofs.YtpaakpbbahbhcaaDoor.GlFnExactSightingText.C 1048577 a0_0 a0_1 a0_2 y0_3 a0_3 cap0_3 _ hT HC0_3 (Lib.hid (by omega)) (Lib.hid (law_text 1048577 (by omega) ⟨a0_0, a0_1, a0_2, y0_3⟩ ⟨by have e_ : maxLen = 9223372036854775807 := rfl; show a0_2.size ≤ 9223372036854775807; omega, by show y0_3.length ≤ 9223372036854775807; omega⟩))

theorem laid_met (os : Os) : laidMetH Tryd.prog Rows.fnExactSightingTextRow.laid ((World.doorLaid Tryd.prog 400 os).forCall (fun _ _ => 0) ⟨#[], #[.agg #[.int .i64 0, .int .i64 0, .string ByteArray.empty, .slice none 0 0]], []⟩).memory :=
  laidMetH_of_parts3 (fuel := 8) (laidMet_of_run' 8 (by kernel_rfl) (by kernel_rfl)) (by kernel_rfl) (by kernel_rfl)
theorem reads (os : Os) {H : Type} (enc : TypeId × Value → H) : ∃ places, DataW.whole enc Tryd.prog ((World.doorLaid Tryd.prog 400 os).forCall (fun _ _ => 0) ⟨#[], #[.agg #[.int .i64 0, .int .i64 0, .string ByteArray.empty, .slice none 0 0]], []⟩).memory Tryd.f3.params.toList Rows.fnExactSightingTextSpec.vars false (#[.agg #[.int .i64 0, .int .i64 0, .string ByteArray.empty, .slice none 0 0]] : Array Value).toList 8 = some ([.agg [.lit (.int .i64 0), .lit (.int .i64 0), .lit (.string []), .nil]], [], places) :=
  ⟨[], by kernel_rfl⟩

set_option maxRecDepth 100000 in
theorem lifted (os : Os) (started : os.Started) (H : Type) (enc : TypeId × Value → H) (F : Stop.Interp) :
    ReturnsInHanded {} Tryd.checked os 3 .any ((OpenSpec.ofChange Rows.fnExactSightingTextSpec).preRow enc Tryd.prog Tryd.f3 Rows.fnExactSightingTextRow.domain false Rows.fnExactSightingTextRow.laid) (((OpenSpec.ofChange Rows.fnExactSightingTextSpec).at F).post enc Tryd.prog Tryd.f3 false true false false) := by
  obtain ⟨places, hx⟩ := reads os enc
  refine returnsInHanded_of_row (C := Tryd.checked) (s := OpenSpec.ofChange Rows.fnExactSightingTextSpec) own started (by kernel_rfl) Tryd.func3
    (witness_row_atRef (enc := enc) (C := Tryd.checked) false (World.doorLaid Tryd.prog 400 os) #[.agg #[.int .i64 0, .int .i64 0, .string ByteArray.empty, .slice none 0 0]] rfl (by kernel_rfl) (by kernel_rfl) (by kernel_rfl)
      (OpenSpec.preRow_of_cond 8 hx (by kernel_rfl) (fun k hk => by cases hk) (by kernel_rfl) (laid_met os))) ?_
  intro W base args ds gs before hval0 hW hcnd hcond hsz hL hsh _
  have hval : ∀ (j : Nat) t v, Tryd.f3.params[j]? = some t → args[j]? = some v → Value.okWide Tryd.prog W .any base t v := hval0
  have hW' := hW
  obtain ⟨p, q, hA0, hV, rfl, hfz, hnd⟩ := hW
  have hA : DataW.TrodAll enc Tryd.prog W 0 (fun _ => true) true Tryd.f3.params.toList args.toList ds p := hA0
  rw [Tryd.params3] at hA hval
  obtain ⟨v0, vs0, d0, ds0, p0, q0, hargs, rfl, rfl, h0, r0⟩ := trodAll_cons hA
  obtain ⟨rfl, rfl, rfl⟩ := trodAll_nil r0
  obtain rfl : args = #[v0] := by cases args; simp_all
  obtain ⟨rfl, rfl⟩ := trodVars_none hV
  obtain ⟨cs0, n0, x0, rfl, ht0⟩ := OpenAny.agg_any Tryd.underlying24 (hval 0 24 v0 rfl rfl) h0
  have k0 := h0
  have lt0 : ∀ x ∈ p0, x.block < W.heap.size := by obtain ⟨m, hm⟩ := k0; exact DataW.trod_lt m _ _ _ hm
  obtain ⟨hl0, hf0⟩ := OpenAny.read_fields Tryd.underlying24 (by kernel_rfl) (by kernel_rfl) ht0
  rw [show Tryd.prog.cellsOf 24 = 4 by kernel_rfl] at hl0
  obtain ⟨cs0⟩ := cs0
  obtain ⟨u0_0, u0_1, u0_2, u0_3, rfl⟩ := OpenNest.len4 hl0
  obtain ⟨u_, n_0_0, y_0_0, eu_, t_0_0⟩ := hf0 0 _ rfl
  obtain rfl : u0_0 = u_ := by simpa using eu_
  obtain ⟨a0_0, e_0_0, _, w0_0⟩ := DataW.trod_int Tryd.underlying3 t_0_0
  obtain rfl : u0_0 = .int .i64 a0_0 := by simpa using e_0_0
  obtain ⟨u_, n_0_1, y_0_1, eu_, t_0_1⟩ := hf0 1 _ rfl
  obtain rfl : u0_1 = u_ := by simpa using eu_
  obtain ⟨a0_1, e_0_1, _, w0_1⟩ := DataW.trod_int Tryd.underlying3 t_0_1
  obtain rfl : u0_1 = .int .i64 a0_1 := by simpa using e_0_1
  obtain ⟨u_, n_0_2, y_0_2, eu_, t_0_2⟩ := hf0 2 _ rfl
  obtain rfl : u0_2 = u_ := by simpa using eu_
  obtain ⟨a0_2, e_0_2, _, w0_2⟩ := DataW.trod_string Tryd.underlying9 t_0_2
  obtain rfl : u0_2 = .string a0_2 := by simpa using e_0_2
  obtain ⟨u_, n_0_3, y_0_3, eu_, t_0_3⟩ := hf0 3 _ rfl
  obtain rfl : u0_3 = u_ := by simpa using eu_
  obtain ⟨a0_3, len0_3, cap0_3, z0_3, rfl, w0_3⟩ := OpenNest.one_ints Tryd.underlying22 Tryd.underlying3 (by kernel_rfl) t_0_3
  clear hA0 hval0
  refine (walk a0_0 a0_1 a0_2 a0_3 len0_3 cap0_3 z0_3 W w0_0 w0_1 w0_2 w0_3 hL hsh).mono fun e W' ⟨he, bel⟩ => ?_
  subst he
  exact ⟨_, rfl, _, _, _, [], _, [], hW', trodAll_mk1 (shut_bool Tryd.underlying4 _), (trodAll_cons_mk (Below.trod laidOut (by kernel_rfl) (of_decide_eq_true (by kernel_rfl)) k0 bel lt0) trodAll_mk0), rfl, bel.frame _, fun h => by cases h⟩

theorem named : Tryd.pinned.checked.prog.funcNamed Rows.fnExactSightingTextRow.func = some 3 := by kernel_rfl
theorem closed : joinedFacts Tryd.pinned.checked.prog 3 Tryd.f3 (OpenSpec.ofChange Rows.fnExactSightingTextSpec).bare Rows.fnExactSightingTextRow = true := by kernel_rfl

theorem over : Rows.fnExactSightingTextRow.holds Tryd.pinned (OpenSpec.ofChange Rows.fnExactSightingTextSpec) :=
  OpenClaim.holds_of_cond 3 Tryd.f3 rfl rfl rfl rfl rfl rfl rfl ⟨rfl, rfl, rfl, rfl, rfl⟩ rfl rfl rfl rfl rfl named Tryd.func3 closed
    (of_decide_eq_true (by kernel_rfl)) (by unfold Func.isWrapper; first | (rw [if_pos (by decide +kernel)]; kernel_rfl) | (rw [if_neg (by decide +kernel)]; exact ⟨rfl, rfl⟩))
    (fun os started H enc _ F => by rw [OpenClaim.pre_eq_preRow]; exact lifted os started H enc F)

/-- No parameter wants a stand-in; the program's own looks are as the card has them. -/
theorem plain (f : FuncId) (fn : Func) (hf : Tryd.pinned.checked.prog.funcNamed "loop.example/g01062/laws.FnExactSightingText" = some f) (hfn : Tryd.pinned.checked.prog.funcs[f]? = some fn) :
    false = Tryd.pinned.checked.prog.looks [] ∧ ∀ (j : Nat) t, fn.params[j]? = some t → Tryd.pinned.checked.prog.wantsStandIn t = false := by
  obtain rfl : f = 3 := Option.some.inj ((show Tryd.prog.funcNamed "loop.example/g01062/laws.FnExactSightingText" = some 3 by kernel_rfl).symm.trans hf) |>.symm
  obtain rfl : fn = Tryd.f3 := (Option.some.inj (Tryd.func3.symm.trans hfn)).symm
  refine ⟨by kernel_rfl, fun j t ht => ?_⟩
  rw [Tryd.params3] at ht
  have hm : t ∈ [24] := by simpa using Array.mem_of_getElem? ht
  have hall : ([24].all fun u => !Tryd.prog.wantsStandIn u) = true := by kernel_rfl
  exact (show Tryd.prog.wantsStandIn t = false by simpa using List.all_eq_true.1 hall t hm)

/-- THE STATEMENT: THE CARD -/
theorem proved : Rows.FnExactSightingTextCardSaid :=
  Claim7.holds_tied_plain_at .later [] _ _ _ _ over (fun _ h => by cases h) (by kernel_rfl) (fun _ h => by cases h) fnExactSightingText_row_tie rfl ⟨rfl, rfl⟩ (by kernel_rfl) rfl plain (by kernel_rfl)
#print axioms proved
end Go.Proofs.YtpaakpbbahbhcaaDoor.fnExactSightingText
