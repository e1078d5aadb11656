/- CheapestChange answers as its model: the change with the least sum of costs, and this sum. -/
import Derived.Test.YtihibckijdfidaaRows
import Derived.Test.YtihibckijdfidaaOpenArr
import Derived.Test.YtihibckijdfidaaCheapClosed
import Derived.WalkKit
import Derived.ProofKit
import Derived.OpenShut
import Derived.ShutString
import Derived.ChangeOld
import Derived.Below
import Derived.Deep.DeepHandedRow
import Derived.Deep.DeepWitnessRowRef
import Derived.LaidMore
import Derived.Outline
import Derived.Test.YtihibckijdfidaaX12P1
import Derived.Test.YtihibckijdfidaaX12P11
import Derived.Test.YtihibckijdfidaaX12P2
import Derived.Test.YtihibckijdfidaaX12P20
namespace Go.Proofs.Ytihibckijdfidaa.fnExactCheapestChange
open Go.ChangeShapes Go.WideShapes Go.ChangeAt Go.RowKit
open Go.ChangeMaps (open_string shut_string)
open Go.RowKit
open Go.Proofs.Ytihibckijdfidaa.Rowed Go.Proofs.Ytihibckijdfidaa.Turn Go.Proofs.Ytihibckijdfidaa.GoM Go.Proofs.Ytihibckijdfidaa.QL12Cheap
open Go.Proofs.Ytihibckijdfidaa.ORate Go.Proofs.Ytihibckijdfidaa.PRate
open Go.Proofs.Ytihibckijdfidaa.OCover Go.Proofs.Ytihibckijdfidaa.PCover
set_option linter.unusedVariables false

theorem own : ownKnob Try.prog.godebug = none := by kernel_rfl
theorem laidOut : laidOutB Try.prog = true := by kernel_rfl

/-- THE WALK -/
theorem walk (a0 : Option Addr) (len0 cap0 : Nat) (z0 : List Rate) (a1 : Cover) (a2_0 : Int) (a2_1 : Int) (a2_2 : Int) (a2_3 : Int) (w : World) (w0 : ORate.Came w a0 len0 cap0 z0) (w1 : a1.fits) (w2_0 : (Lit.int .i64 a2_0).wf = true) (w2_1 : (Lit.int .i64 a2_1).wf = true) (w2_2 : (Lit.int .i64 a2_2).wf = true) (w2_3 : (Lit.int .i64 a2_3).wf = true) (hL : laidMetH Try.prog Rows.fnExactCheapestChangeRow.laid w) (hsh : w.ShapedOpen Try.prog) :
    Calls Try.prog 7 #[.slice a0 len0 cap0, a1.val, .agg #[.int .i64 a2_0, .int .i64 a2_1, .int .i64 a2_2, .int .i64 a2_3]] w fun e w' => e = .returned (.bool true) ∧ Below w.heap.size w w' := by
  have HC0 := Lib.hid w0.cells
  have hl0 := w0.small
  have HF0 := Lib.hid w0.fits
  obtain rfl := w0.len
  obtain ⟨y0, rfl⟩ : ∃ y, y = z0 := ⟨_, rfl⟩
  clear w0
  unfold maxLen at hl0
  clear hL hsh
  exact Go.Proofs.Ytihibckijdfidaa.GlFnExactCheapestChange.C 1048577 y0 a1 ⟨a2_0, a2_1, a2_2, a2_3⟩ a0 cap0 _ HC0 (Lib.hid (by omega)) (Lib.hid (law_cheapest y0 a1 ⟨a2_0, a2_1, a2_2, a2_3⟩ hl0 (by omega)))

theorem laid_met (os : Os) : laidMetH Try.prog Rows.fnExactCheapestChangeRow.laid ((World.holding Try.prog os ⟨#[], #[], []⟩).forCall (fun _ _ => 0) ⟨#[], #[.slice none 0 0, .agg #[.int .i64 0, .int .i64 0, .int .i64 0, .int .i64 0, .int .i64 0, .int .i64 0, .int .i64 0, .int .i64 0, .int .i64 0], .agg #[.int .i64 0, .int .i64 0, .int .i64 0, .int .i64 0]], []⟩).memory :=
  laidMetH_of_parts3 (fuel := 8) (laidMet_of_run' 8 (by kernel_rfl) (by kernel_rfl)) (by kernel_rfl) (by kernel_rfl)
theorem reads (os : Os) {H : Type} (enc : TypeId × Value → H) : ∃ places, DataW.whole enc Try.prog ((World.holding Try.prog os ⟨#[], #[], []⟩).forCall (fun _ _ => 0) ⟨#[], #[.slice none 0 0, .agg #[.int .i64 0, .int .i64 0, .int .i64 0, .int .i64 0, .int .i64 0, .int .i64 0, .int .i64 0, .int .i64 0, .int .i64 0], .agg #[.int .i64 0, .int .i64 0, .int .i64 0, .int .i64 0]], []⟩).memory Try.f7.params.toList Rows.fnExactCheapestChangeSpec.vars false (#[.slice none 0 0, .agg #[.int .i64 0, .int .i64 0, .int .i64 0, .int .i64 0, .int .i64 0, .int .i64 0, .int .i64 0, .int .i64 0, .int .i64 0], .agg #[.int .i64 0, .int .i64 0, .int .i64 0, .int .i64 0]] : Array Value).toList 8 = some ([.nil, .agg [.lit (.int .i64 0), .lit (.int .i64 0), .lit (.int .i64 0), .lit (.int .i64 0), .lit (.int .i64 0), .lit (.int .i64 0), .lit (.int .i64 0), .lit (.int .i64 0), .lit (.int .i64 0)], .agg [.lit (.int .i64 0), .lit (.int .i64 0), .lit (.int .i64 0), .lit (.int .i64 0)]], [], places) :=
  ⟨[], by kernel_rfl⟩

set_option maxRecDepth 100000 in
theorem lifted (os : Os) (started : os.Started) (H : Type) (enc : TypeId × Value → H) (F : Stop.Interp) :
    ReturnsInHanded {} Try.checked os 7 .any ((OpenSpec.ofChange Rows.fnExactCheapestChangeSpec).preRow enc Try.prog Try.f7 Rows.fnExactCheapestChangeRow.domain false Rows.fnExactCheapestChangeRow.laid) (((OpenSpec.ofChange Rows.fnExactCheapestChangeSpec).at F).post enc Try.prog Try.f7 false true false false) := by
  obtain ⟨places, hx⟩ := reads os enc
  refine returnsInHanded_of_row (C := Try.checked) (s := OpenSpec.ofChange Rows.fnExactCheapestChangeSpec) own started (by kernel_rfl) Try.func7
    (witness_row_atRef (enc := enc) (C := Try.checked) false (World.holding Try.prog os ⟨#[], #[], []⟩) #[.slice none 0 0, .agg #[.int .i64 0, .int .i64 0, .int .i64 0, .int .i64 0, .int .i64 0, .int .i64 0, .int .i64 0, .int .i64 0, .int .i64 0], .agg #[.int .i64 0, .int .i64 0, .int .i64 0, .int .i64 0]] rfl (by kernel_rfl) (by kernel_rfl) (by kernel_rfl)
      (OpenSpec.preRow_of_cond 8 hx (by kernel_rfl) (fun k hk => by cases hk) (by kernel_rfl) (laid_met os))) ?_
  intro W base args ds gs before hval0 hW hcnd hcond hsz hL hsh _
  have hval : ∀ (j : Nat) t v, Try.f7.params[j]? = some t → args[j]? = some v → Value.okWide Try.prog W .any base t v := hval0
  have hW' := hW
  obtain ⟨p, q, hA0, hV, rfl, hfz, hnd⟩ := hW
  have hA : DataW.TrodAll enc Try.prog W 0 (fun _ => true) true Try.f7.params.toList args.toList ds p := hA0
  rw [Try.params7] at hA hval
  obtain ⟨v0, vs0, d0, ds0, p0, q0, hargs, rfl, rfl, h0, r0⟩ := trodAll_cons hA
  obtain ⟨v1, vs1, d1, ds1, p1, q1, rfl, rfl, rfl, h1, r1⟩ := trodAll_cons r0
  obtain ⟨v2, vs2, d2, ds2, p2, q2, rfl, rfl, rfl, h2, r2⟩ := trodAll_cons r1
  obtain ⟨rfl, rfl, rfl⟩ := trodAll_nil r2
  obtain rfl : args = #[v0, v1, v2] := by cases args; simp_all
  obtain ⟨rfl, rfl⟩ := trodVars_none hV
  obtain ⟨a0, len0, cap0, rfl⟩ := okWide_slice Try.underlying22 (hval 0 22 v0 rfl rfl)
  have k0 := h0
  have lt0 : ∀ x ∈ p0, x.block < W.heap.size := by obtain ⟨m, hm⟩ := k0; exact DataW.trod_lt m _ _ _ hm
  obtain ⟨z0, w0⟩ := ORate.open_many h0
  obtain ⟨a1, rfl, w1⟩ := OCover.open_one (hval 1 24 v1 rfl rfl) h1
  have k1 := h1
  have lt1 : ∀ x ∈ p1, x.block < W.heap.size := by obtain ⟨m, hm⟩ := k1; exact DataW.trod_lt m _ _ _ hm
  obtain ⟨cs2, n2, x2, rfl, ht2⟩ := OpenArr.agg_arr Try.underlying46 (hval 2 46 v2 rfl rfl) h2
  have k2 := h2
  have lt2 : ∀ x ∈ p2, x.block < W.heap.size := by obtain ⟨m, hm⟩ := k2; exact DataW.trod_lt m _ _ _ hm
  obtain ⟨hl2, hf2⟩ := OpenArr.read_items Try.underlying46 (by kernel_rfl) (by kernel_rfl) ht2
  rw [show Try.prog.cellsOf 46 = 4 by kernel_rfl] at hl2
  obtain ⟨cs2⟩ := cs2
  obtain ⟨u2_0, u2_1, u2_2, u2_3, rfl⟩ := OpenNest.len4 hl2
  obtain ⟨u_, n_2_0, y_2_0, eu_, t_2_0⟩ := hf2 0 (by decide)
  obtain rfl : u2_0 = u_ := by simpa using eu_
  obtain ⟨a2_0, e_2_0, _, w2_0⟩ := DataW.trod_int Try.underlying3 t_2_0
  obtain rfl : u2_0 = .int .i64 a2_0 := by simpa using e_2_0
  obtain ⟨u_, n_2_1, y_2_1, eu_, t_2_1⟩ := hf2 1 (by decide)
  obtain rfl : u2_1 = u_ := by simpa using eu_
  obtain ⟨a2_1, e_2_1, _, w2_1⟩ := DataW.trod_int Try.underlying3 t_2_1
  obtain rfl : u2_1 = .int .i64 a2_1 := by simpa using e_2_1
  obtain ⟨u_, n_2_2, y_2_2, eu_, t_2_2⟩ := hf2 2 (by decide)
  obtain rfl : u2_2 = u_ := by simpa using eu_
  obtain ⟨a2_2, e_2_2, _, w2_2⟩ := DataW.trod_int Try.underlying3 t_2_2
  obtain rfl : u2_2 = .int .i64 a2_2 := by simpa using e_2_2
  obtain ⟨u_, n_2_3, y_2_3, eu_, t_2_3⟩ := hf2 3 (by decide)
  obtain rfl : u2_3 = u_ := by simpa using eu_
  obtain ⟨a2_3, e_2_3, _, w2_3⟩ := DataW.trod_int Try.underlying3 t_2_3
  obtain rfl : u2_3 = .int .i64 a2_3 := by simpa using e_2_3
  clear hA0 hval0
  refine (walk a0 len0 cap0 z0 a1 a2_0 a2_1 a2_2 a2_3 W w0 w1 w2_0 w2_1 w2_2 w2_3 hL hsh).mono fun e W' ⟨he, bel⟩ => ?_
  subst he
  exact ⟨_, rfl, _, _, _, [], _, [], hW', trodAll_mk1 (shut_bool Try.underlying4 _), (trodAll_cons_mk (Below.trod laidOut (by kernel_rfl) (of_decide_eq_true (by kernel_rfl)) k0 bel lt0) (trodAll_cons_mk (Below.trod laidOut (by kernel_rfl) (of_decide_eq_true (by kernel_rfl)) k1 bel lt1) (trodAll_cons_mk (Below.trod laidOut (by kernel_rfl) (of_decide_eq_true (by kernel_rfl)) k2 bel lt2) trodAll_mk0))), rfl, bel.frame _, fun h => by cases h⟩


theorem over : Rows.fnExactCheapestChangeRow.holds Try.pinned (OpenSpec.ofChange Rows.fnExactCheapestChangeSpec) :=
  OpenClaim.holds_of_cond 7 Try.f7 rfl rfl rfl rfl rfl rfl rfl ⟨rfl, rfl, rfl, rfl, rfl⟩ rfl rfl rfl rfl rfl named Try.func7 closed
    (of_decide_eq_true (by kernel_rfl)) (by unfold Func.isWrapper; first | (rw [if_pos (by decide +kernel)]; kernel_rfl) | (rw [if_neg (by decide +kernel)]; exact ⟨rfl, rfl⟩))
    (fun os started H enc _ F => by rw [OpenClaim.pre_eq_preRow]; exact lifted os started H enc F)

/-- THE STATEMENT -/
theorem proved : Rows.FnExactCheapestChangeSaid :=
  over
#print axioms proved
end Go.Proofs.Ytihibckijdfidaa.fnExactCheapestChange
