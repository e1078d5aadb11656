/- NeedlessBans answers as its model at every argument, writes into none, and its answer owns its memory. -/
import Derived.Test.YtdbgmcgjklmkkaaRows
import Derived.WalkKit
import Derived.ProofKit
import Derived.OpenShut
import Derived.ShutString
import Derived.ChangeOld
import Derived.Below
import Derived.Deep.DeepHandedRow
import Derived.Deep.DeepWitnessRowRef
import Derived.LaidMore
import Derived.Outline
import Derived.Test.YtdbgmcgjklmkkaaFnExactNeedlessBansP1
import Derived.Test.YtdbgmcgjklmkkaaFnExactNeedlessBansP2
import Derived.Test.YtdbgmcgjklmkkaaFnExactNeedlessBansP3
import Derived.Test.YtdbgmcgjklmkkaaFnExactNeedlessBansP4
namespace Go.Proofs.Ytdbgmcgjklmkkaa.fnExactNeedlessBans
open Go.ChangeShapes Go.WideShapes Go.ChangeAt Go.RowKit
open Go.ChangeMaps (open_string shut_string)
open Go.RowKit
open Go.Proofs.Ytdbgmcgjklmkkaa.Rowed Go.Proofs.Ytdbgmcgjklmkkaa.Turn Go.Proofs.Ytdbgmcgjklmkkaa.GoM Go.Proofs.Ytdbgmcgjklmkkaa.QL6Need
open Go.Proofs.Ytdbgmcgjklmkkaa.OBan Go.Proofs.Ytdbgmcgjklmkkaa.PBan
set_option linter.unusedVariables false

theorem own : ownKnob Try.prog.godebug = none := by kernel_rfl
theorem laidOut : laidOutB Try.prog = true := by kernel_rfl

/-- THE WALK -/
theorem walk (a0_0 : Option Addr) (len0_0 cap0_0 : Nat) (z0_0 : List Int) (a0_1 : Option Addr) (len0_1 cap0_1 : Nat) (z0_1 : List Ban) (w : World) (w0_0 : Cells w 1 a0_0 len0_0 (z0_0.map (Value.int .i64)) ∧ z0_0.length = len0_0 ∧ len0_0 ≤ maxLen ∧ ∀ n ∈ z0_0, (Lit.int .i64 n).wf = true) (w0_1 : OBan.Came w a0_1 len0_1 cap0_1 z0_1) (hL : laidMetH Try.prog Rows.fnExactNeedlessBansRow.laid w) (hsh : w.ShapedOpen Try.prog) :
    Calls Try.prog 3 #[.agg #[.slice a0_0 len0_0 cap0_0, .slice a0_1 len0_1 cap0_1]] w fun e w' => e = .returned (.bool true) ∧ Below w.heap.size w w' := by
  obtain ⟨hc0_0, hn0_0, hl0_0, hf0_0⟩ := w0_0
  obtain rfl := hn0_0
  have HC0_0 := Lib.hid hc0_0
  have HF0_0 := Lib.hid hf0_0
  obtain ⟨y0_0, rfl⟩ : ∃ y, y = z0_0 := ⟨_, rfl⟩
  clear hc0_0 hf0_0
  unfold maxLen at hl0_0
  have HC0_1 := Lib.hid w0_1.cells
  have hl0_1 := w0_1.small
  have HF0_1 := Lib.hid w0_1.fits
  obtain rfl := w0_1.len
  obtain ⟨y0_1, rfl⟩ : ∃ y, y = z0_1 := ⟨_, rfl⟩
  clear w0_1
  unfold maxLen at hl0_1
  clear hL hsh
  exact Go.Proofs.Ytdbgmcgjklmkkaa.GlFnExactNeedlessBans.C 1048577 y0_0 y0_1 a0_0 cap0_0 a0_1 cap0_1 _ HC0_0 (Lib.hid (by omega)) HC0_1 (Lib.hid (by omega)) (Lib.hid (law_need 1048577 (by omega) y0_0 y0_1 (by omega) (by omega)))

theorem laid_met (os : Os) : laidMetH Try.prog Rows.fnExactNeedlessBansRow.laid ((World.holding Try.prog os ⟨#[], #[], []⟩).forCall (fun _ _ => 0) ⟨#[], #[.agg #[.slice none 0 0, .slice none 0 0]], []⟩).memory :=
  laidMetH_of_parts3 (fuel := 8) (laidMet_of_run' 8 (by kernel_rfl) (by kernel_rfl)) (by kernel_rfl) (by kernel_rfl)
theorem reads (os : Os) {H : Type} (enc : TypeId × Value → H) : ∃ places, DataW.whole enc Try.prog ((World.holding Try.prog os ⟨#[], #[], []⟩).forCall (fun _ _ => 0) ⟨#[], #[.agg #[.slice none 0 0, .slice none 0 0]], []⟩).memory Try.f3.params.toList Rows.fnExactNeedlessBansSpec.vars false (#[.agg #[.slice none 0 0, .slice none 0 0]] : Array Value).toList 8 = some ([.agg [.nil, .nil]], [], places) :=
  ⟨[], by kernel_rfl⟩

set_option maxRecDepth 100000 in
theorem lifted (os : Os) (started : os.Started) (H : Type) (enc : TypeId × Value → H) (F : Stop.Interp) :
    ReturnsInHanded {} Try.checked os 3 .any ((OpenSpec.ofChange Rows.fnExactNeedlessBansSpec).preRow enc Try.prog Try.f3 Rows.fnExactNeedlessBansRow.domain false Rows.fnExactNeedlessBansRow.laid) (((OpenSpec.ofChange Rows.fnExactNeedlessBansSpec).at F).post enc Try.prog Try.f3 false true false false) := by
  obtain ⟨places, hx⟩ := reads os enc
  refine returnsInHanded_of_row (C := Try.checked) (s := OpenSpec.ofChange Rows.fnExactNeedlessBansSpec) own started (by kernel_rfl) Try.func3
    (witness_row_atRef (enc := enc) (C := Try.checked) false (World.holding Try.prog os ⟨#[], #[], []⟩) #[.agg #[.slice none 0 0, .slice none 0 0]] rfl (by kernel_rfl) (by kernel_rfl) (by kernel_rfl)
      (OpenSpec.preRow_of_cond 8 hx (by kernel_rfl) (fun k hk => by cases hk) (by kernel_rfl) (laid_met os))) ?_
  intro W base args ds gs before hval0 hW hcnd hcond hsz hL hsh _
  have hval : ∀ (j : Nat) t v, Try.f3.params[j]? = some t → args[j]? = some v → Value.okWide Try.prog W .any base t v := hval0
  have hW' := hW
  obtain ⟨p, q, hA0, hV, rfl, hfz, hnd⟩ := hW
  have hA : DataW.TrodAll enc Try.prog W 0 (fun _ => true) true Try.f3.params.toList args.toList ds p := hA0
  rw [Try.params3] at hA hval
  obtain ⟨v0, vs0, d0, ds0, p0, q0, hargs, rfl, rfl, h0, r0⟩ := trodAll_cons hA
  obtain ⟨rfl, rfl, rfl⟩ := trodAll_nil r0
  obtain rfl : args = #[v0] := by cases args; simp_all
  obtain ⟨rfl, rfl⟩ := trodVars_none hV
  obtain ⟨cs0, n0, x0, rfl, ht0⟩ := OpenAny.agg_any Try.underlying25 (hval 0 25 v0 rfl rfl) h0
  have k0 := h0
  have lt0 : ∀ x ∈ p0, x.block < W.heap.size := by obtain ⟨m, hm⟩ := k0; exact DataW.trod_lt m _ _ _ hm
  obtain ⟨hl0, hf0⟩ := OpenAny.read_fields Try.underlying25 (by kernel_rfl) (by kernel_rfl) ht0
  rw [show Try.prog.cellsOf 25 = 2 by kernel_rfl] at hl0
  obtain ⟨cs0⟩ := cs0
  obtain ⟨u0_0, u0_1, rfl⟩ := OpenNest.len2 hl0
  obtain ⟨u_, n_0_0, y_0_0, eu_, t_0_0⟩ := hf0 0 _ rfl
  obtain rfl : u0_0 = u_ := by simpa using eu_
  obtain ⟨a0_0, len0_0, cap0_0, z0_0, rfl, w0_0⟩ := OpenNest.one_ints Try.underlying22 Try.underlying3 (by kernel_rfl) t_0_0
  obtain ⟨u_, n_0_1, y_0_1, eu_, t_0_1⟩ := hf0 1 _ rfl
  obtain rfl : u0_1 = u_ := by simpa using eu_
  obtain ⟨a0_1, len0_1, cap0_1, z0_1, rfl, w0_1⟩ := OBan.open_field t_0_1
  clear hA0 hval0
  refine (walk a0_0 len0_0 cap0_0 z0_0 a0_1 len0_1 cap0_1 z0_1 W w0_0 w0_1 hL hsh).mono fun e W' ⟨he, bel⟩ => ?_
  subst he
  exact ⟨_, rfl, _, _, _, [], _, [], hW', trodAll_mk1 (shut_bool Try.underlying4 _), (trodAll_cons_mk (Below.trod laidOut (by kernel_rfl) (of_decide_eq_true (by kernel_rfl)) k0 bel lt0) trodAll_mk0), rfl, bel.frame _, fun h => by cases h⟩

theorem named : Try.pinned.checked.prog.funcNamed Rows.fnExactNeedlessBansRow.func = some 3 := by kernel_rfl
theorem closed : joinedFacts Try.pinned.checked.prog 3 Try.f3 (OpenSpec.ofChange Rows.fnExactNeedlessBansSpec).bare Rows.fnExactNeedlessBansRow = true := by kernel_rfl

theorem over : Rows.fnExactNeedlessBansRow.holds Try.pinned (OpenSpec.ofChange Rows.fnExactNeedlessBansSpec) :=
  OpenClaim.holds_of_cond 3 Try.f3 rfl rfl rfl rfl rfl rfl rfl ⟨rfl, rfl, rfl, rfl, rfl⟩ rfl rfl rfl rfl rfl named Try.func3 closed
    (of_decide_eq_true (by kernel_rfl)) (by unfold Func.isWrapper; first | (rw [if_pos (by decide +kernel)]; kernel_rfl) | (rw [if_neg (by decide +kernel)]; exact ⟨rfl, rfl⟩))
    (fun os started H enc _ F => by rw [OpenClaim.pre_eq_preRow]; exact lifted os started H enc F)

/-- THE STATEMENT -/
theorem proved : Rows.FnExactNeedlessBansSaid :=
  over
#print axioms proved
end Go.Proofs.Ytdbgmcgjklmkkaa.fnExactNeedlessBans
