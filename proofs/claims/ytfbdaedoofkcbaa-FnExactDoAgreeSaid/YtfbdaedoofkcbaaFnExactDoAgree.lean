/- For every two Blocks and numbers the program's DoAgree and the reference's agree, and what came in reads as before. -/
import Derived.Test.YtfbdaedoofkcbaaRows
import Derived.WalkKit
import Derived.ProofKit
import Derived.OpenShut
import Derived.ShutString
import Derived.ChangeOld
import Derived.Below
import Derived.Deep.DeepHandedRow
import Derived.Deep.DeepWitnessRowRef
import Derived.LaidMore
import Derived.Test.YtfbdaedoofkcbaaGlFnExactDoAgree
import Derived.Test.YtfbdaedoofkcbaaTurn
import Derived.Outline
import Derived.Test.YtfbdaedoofkcbaaQAgree
import Derived.Test.YtfbdaedoofkcbaaOpenNest
namespace Go.Proofs.Ytfbdaedoofkcbaa.fnExactDoAgree
open Go.ChangeShapes Go.WideShapes Go.ChangeAt Go.RowKit
open Go.ChangeMaps (open_string shut_string)
open Go.RowKit
open Go.Proofs.Ytfbdaedoofkcbaa.Rowed Go.Proofs.Ytfbdaedoofkcbaa.Turn Go.Proofs.Ytfbdaedoofkcbaa.GoM Go.Proofs.Ytfbdaedoofkcbaa.QAgree
set_option linter.unusedVariables false

theorem own : ownKnob Try.prog.godebug = none := by kernel_rfl
theorem laidOut : laidOutB Try.prog = true := by kernel_rfl

/-- THE WALK -/
theorem walk (a0_0 : Option Addr) (len0_0 cap0_0 : Nat) (z0_0 : List ByteArray) (a1_0 : Option Addr) (len1_0 cap1_0 : Nat) (z1_0 : List ByteArray) (a2 : Int) (a3 : Int) (w : World) (w0_0 : Cells w 1 a0_0 len0_0 (z0_0.map Value.string) ∧ z0_0.length = len0_0 ∧ len0_0 ≤ maxLen ∧ ∀ s ∈ z0_0, s.size ≤ maxLen) (w1_0 : Cells w 1 a1_0 len1_0 (z1_0.map Value.string) ∧ z1_0.length = len1_0 ∧ len1_0 ≤ maxLen ∧ ∀ s ∈ z1_0, s.size ≤ maxLen) (w2 : (Lit.int .i64 a2).wf = true) (w3 : (Lit.int .i64 a3).wf = true) (hL : laidMetH Try.prog Rows.fnExactDoAgreeRow.laid w) (hsh : w.ShapedOpen Try.prog) :
    Calls Try.prog 10 #[.agg #[.slice a0_0 len0_0 cap0_0], .agg #[.slice a1_0 len1_0 cap1_0], .int .i64 a2, .int .i64 a3] w fun e w' => e = .returned (.bool true) ∧ Below w.heap.size w w' := by
  obtain ⟨hc0_0, hn0_0, hl0_0, hf0_0⟩ := w0_0
  obtain rfl := hn0_0
  have HC0_0 := Lib.hid hc0_0
  have HF0_0 := Lib.hid hf0_0
  clear hc0_0 hf0_0
  unfold maxLen at hl0_0
  obtain ⟨hc1_0, hn1_0, hl1_0, hf1_0⟩ := w1_0
  obtain rfl := hn1_0
  have HC1_0 := Lib.hid hc1_0
  have HF1_0 := Lib.hid hf1_0
  clear hc1_0 hf1_0
  unfold maxLen at hl1_0
  clear hL hsh
  exact Go.Proofs.Ytfbdaedoofkcbaa.GlFnExactDoAgree.C 1048577 z0_0 z1_0 a2 a3 a0_0 cap0_0 a1_0 cap1_0 _ HC0_0 (Lib.hid (by omega)) HC1_0 (Lib.hid (by omega)) (Lib.hid (QAgree.doAgree z0_0 z1_0 a2 a3 HF0_0.out (by omega) HF1_0.out (by omega)))

theorem laid_met (os : Os) : laidMetH Try.prog Rows.fnExactDoAgreeRow.laid ((World.holding Try.prog os ⟨#[], #[], []⟩).forCall (fun _ _ => 0) ⟨#[], #[.agg #[.slice none 0 0], .agg #[.slice none 0 0], .int .i64 0, .int .i64 0], []⟩).memory :=
  laidMetH_of_parts3 (fuel := 8) (laidMet_of_run' 8 (by kernel_rfl) (by kernel_rfl)) (by kernel_rfl) (by kernel_rfl)
theorem reads (os : Os) {H : Type} (enc : TypeId × Value → H) : ∃ places, DataW.whole enc Try.prog ((World.holding Try.prog os ⟨#[], #[], []⟩).forCall (fun _ _ => 0) ⟨#[], #[.agg #[.slice none 0 0], .agg #[.slice none 0 0], .int .i64 0, .int .i64 0], []⟩).memory Try.f10.params.toList Rows.fnExactDoAgreeSpec.vars false (#[.agg #[.slice none 0 0], .agg #[.slice none 0 0], .int .i64 0, .int .i64 0] : Array Value).toList 8 = some ([.agg [.nil], .agg [.nil], .lit (.int .i64 0), .lit (.int .i64 0)], [], places) :=
  ⟨[], by kernel_rfl⟩

set_option maxRecDepth 100000 in
theorem lifted (os : Os) (started : os.Started) (H : Type) (enc : TypeId × Value → H) (F : Stop.Interp) :
    ReturnsInHanded {} Try.checked os 10 .any ((OpenSpec.ofChange Rows.fnExactDoAgreeSpec).preRow enc Try.prog Try.f10 Rows.fnExactDoAgreeRow.domain false Rows.fnExactDoAgreeRow.laid) (((OpenSpec.ofChange Rows.fnExactDoAgreeSpec).at F).post enc Try.prog Try.f10 false true false false) := by
  obtain ⟨places, hx⟩ := reads os enc
  refine returnsInHanded_of_row (C := Try.checked) (s := OpenSpec.ofChange Rows.fnExactDoAgreeSpec) own started (by kernel_rfl) Try.func10
    (witness_row_atRef (enc := enc) (C := Try.checked) false (World.holding Try.prog os ⟨#[], #[], []⟩) #[.agg #[.slice none 0 0], .agg #[.slice none 0 0], .int .i64 0, .int .i64 0] rfl (by kernel_rfl) (by kernel_rfl) (by kernel_rfl)
      (OpenSpec.preRow_of_cond 8 hx (by kernel_rfl) (fun k hk => by cases hk) (by kernel_rfl) (laid_met os))) ?_
  intro W base args ds gs before hval0 hW hcnd hcond hsz hL hsh _
  have hval : ∀ (j : Nat) t v, Try.f10.params[j]? = some t → args[j]? = some v → Value.okWide Try.prog W .any base t v := hval0
  have hW' := hW
  obtain ⟨p, q, hA0, hV, rfl, hfz, hnd⟩ := hW
  have hA : DataW.TrodAll enc Try.prog W 0 (fun _ => true) true Try.f10.params.toList args.toList ds p := hA0
  rw [Try.params10] at hA hval
  obtain ⟨v0, vs0, d0, ds0, p0, q0, hargs, rfl, rfl, h0, r0⟩ := trodAll_cons hA
  obtain ⟨v1, vs1, d1, ds1, p1, q1, rfl, rfl, rfl, h1, r1⟩ := trodAll_cons r0
  obtain ⟨v2, vs2, d2, ds2, p2, q2, rfl, rfl, rfl, h2, r2⟩ := trodAll_cons r1
  obtain ⟨v3, vs3, d3, ds3, p3, q3, rfl, rfl, rfl, h3, r3⟩ := trodAll_cons r2
  obtain ⟨rfl, rfl, rfl⟩ := trodAll_nil r3
  obtain rfl : args = #[v0, v1, v2, v3] := by cases args; simp_all
  obtain ⟨rfl, rfl⟩ := trodVars_none hV
  obtain ⟨cs0, n0, x0, rfl, ht0⟩ := OpenAny.agg_any Try.underlying24 (hval 0 24 v0 rfl rfl) h0
  have k0 := h0
  have lt0 : ∀ x ∈ p0, x.block < W.heap.size := by obtain ⟨m, hm⟩ := k0; exact DataW.trod_lt m _ _ _ hm
  obtain ⟨hl0, hf0⟩ := OpenAny.read_fields Try.underlying24 (by kernel_rfl) (by kernel_rfl) ht0
  rw [show Try.prog.cellsOf 24 = 1 by kernel_rfl] at hl0
  obtain ⟨cs0⟩ := cs0
  obtain ⟨u0_0, rfl⟩ := OpenNest.len1 hl0
  obtain ⟨u_, n_0_0, y_0_0, eu_, t_0_0⟩ := hf0 0 _ rfl
  obtain rfl : u0_0 = u_ := by simpa using eu_
  obtain ⟨a0_0, len0_0, cap0_0, z0_0, rfl, w0_0⟩ := OpenNest.one_strs Try.underlying22 Try.underlying9 (by kernel_rfl) t_0_0
  obtain ⟨cs1, n1, x1, rfl, ht1⟩ := OpenAny.agg_any Try.underlying24 (hval 1 24 v1 rfl rfl) h1
  have k1 := h1
  have lt1 : ∀ x ∈ p1, x.block < W.heap.size := by obtain ⟨m, hm⟩ := k1; exact DataW.trod_lt m _ _ _ hm
  obtain ⟨hl1, hf1⟩ := OpenAny.read_fields Try.underlying24 (by kernel_rfl) (by kernel_rfl) ht1
  rw [show Try.prog.cellsOf 24 = 1 by kernel_rfl] at hl1
  obtain ⟨cs1⟩ := cs1
  obtain ⟨u1_0, rfl⟩ := OpenNest.len1 hl1
  obtain ⟨u_, n_1_0, y_1_0, eu_, t_1_0⟩ := hf1 0 _ rfl
  obtain rfl : u1_0 = u_ := by simpa using eu_
  obtain ⟨a1_0, len1_0, cap1_0, z1_0, rfl, w1_0⟩ := OpenNest.one_strs Try.underlying22 Try.underlying9 (by kernel_rfl) t_1_0
  obtain ⟨a2, rfl, rfl, rfl, w2⟩ := open_int Try.underlying3 (hval 2 3 v2 rfl rfl) h2
  obtain ⟨a3, rfl, rfl, rfl, w3⟩ := open_int Try.underlying3 (hval 3 3 v3 rfl rfl) h3
  clear hA0 hval0
  refine (walk a0_0 len0_0 cap0_0 z0_0 a1_0 len1_0 cap1_0 z1_0 a2 a3 W w0_0 w1_0 w2 w3 hL hsh).mono fun e W' ⟨he, bel⟩ => ?_
  subst he
  exact ⟨_, rfl, _, _, _, [], _, [], hW', trodAll_mk1 (shut_bool Try.underlying4 _), (trodAll_cons_mk (Below.trod laidOut (by kernel_rfl) (of_decide_eq_true (by kernel_rfl)) k0 bel lt0) (trodAll_cons_mk (Below.trod laidOut (by kernel_rfl) (of_decide_eq_true (by kernel_rfl)) k1 bel lt1) (trodAll_cons_mk (shut_int Try.underlying3 w2) (trodAll_cons_mk (shut_int Try.underlying3 w3) trodAll_mk0)))), rfl, bel.frame _, fun h => by cases h⟩

theorem named : Try.pinned.checked.prog.funcNamed Rows.fnExactDoAgreeRow.func = some 10 := by kernel_rfl
theorem closed : joinedFacts Try.pinned.checked.prog 10 Try.f10 (OpenSpec.ofChange Rows.fnExactDoAgreeSpec).bare Rows.fnExactDoAgreeRow = true := by kernel_rfl

theorem over : Rows.fnExactDoAgreeRow.holds Try.pinned (OpenSpec.ofChange Rows.fnExactDoAgreeSpec) :=
  OpenClaim.holds_of_cond 10 Try.f10 rfl rfl rfl rfl rfl rfl rfl ⟨rfl, rfl, rfl, rfl, rfl⟩ rfl rfl rfl rfl rfl named Try.func10 closed
    (of_decide_eq_true (by kernel_rfl)) (by unfold Func.isWrapper; first | (rw [if_pos (by decide +kernel)]; kernel_rfl) | (rw [if_neg (by decide +kernel)]; exact ⟨rfl, rfl⟩))
    (fun os started H enc _ F => by rw [OpenClaim.pre_eq_preRow]; exact lifted os started H enc F)

/-- THE STATEMENT -/
theorem proved : Rows.FnExactDoAgreeSaid :=
  over
#print axioms proved
end Go.Proofs.Ytfbdaedoofkcbaa.fnExactDoAgree
