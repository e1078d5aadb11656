/- AreStamps of the program answers as the reference model at every argument, writes into no argument, and its answer owns its memory: the law returns true at every input that fits the row. No condition of its own. -/
import Derived.Test.YtmbfekfpahlmfaaRows
import Derived.WalkKit
import Derived.ProofKit
import Derived.OpenShut
import Derived.ShutString
import Derived.ChangeOld
import Derived.Below
import Derived.Deep.DeepHandedRow
import Derived.Deep.DeepWitnessRowRef
import Derived.LaidMore
import Derived.Test.YtmbfekfpahlmfaaAreStamps
import Derived.Test.YtmbfekfpahlmfaaMarkStamp
import Derived.Outline
import Derived.Test.YtmbfekfpahlmfaaOpenStamp
namespace Go.Proofs.Ytmbfekfpahlmfaa.fnExactAreStamps
open Go.ChangeShapes Go.WideShapes Go.ChangeAt Go.RowKit
open Go.ChangeMaps (open_string shut_string)
open Go.Proofs.Ytmbfekfpahlmfaa.Rowed Go.Proofs.Ytmbfekfpahlmfaa.HelpStamp Go.Proofs.Ytmbfekfpahlmfaa.HelpInt Go.Proofs.Ytmbfekfpahlmfaa.AreStamps
open Go.Proofs.Ytmbfekfpahlmfaa.OpenStamp Go.Proofs.Ytmbfekfpahlmfaa.PlainStamp
set_option linter.unusedVariables false

theorem own : ownKnob Try.prog.godebug = none := by kernel_rfl
theorem laidOut : laidOutB Try.prog = true := by kernel_rfl

/-- THE WALK -/
theorem walk (a0 : Option Addr) (len0 cap0 : Nat) (z0 : List St) (w : World) (w0 : Came w a0 len0 cap0 z0) (hL : laidMetH Try.prog Rows.fnExactAreStampsRow.laid w) (hsh : w.ShapedOpen Try.prog) :
    Calls Try.prog 4 #[.slice a0 len0 cap0] w fun e w' => e = .returned (.bool true) ∧ Below w.heap.size w w' := by
  have HC := Lib.hid w0.cells
  have hlm := w0.small
  obtain rfl := w0.len
  clear hL hsh w0
  unfold maxLen at hlm
  by_cases hbig : 1048576 < z0.length
  · go_enter Try.func4, Try.ntmps4
    go_wp2_with (go_at_call 14; refine (sz_neg a0 _ cap0 _ hbig (by omega)).mono ?_; rintro e w' ⟨rfl, rfl⟩)
    go_ret
    exact ⟨rfl, Below.refl _ _⟩
  · have hn : z0.length ≤ 1048576 := by omega
    clear hbig hlm
    go_enter Try.func4, Try.ntmps4
    go_wp2_with (go_at_call 14; refine (sz_pos a0 _ cap0 _ hn).mono ?_; rintro e w' ⟨rfl, rfl⟩)
    go_at_call 16
    refine (to_any a0 cap0 z0 _ HC.out hn).mono ?_
    rintro e w1 ⟨g1, rfl, hO1, hB1⟩
    have C1 := Lib.hid (own_cells hO1)
    clear hO1
    go_wp2_with fail
    go_at_call 15
    refine (are_spec _ _ _ z0 w1 C1.out hn).mono ?_
    rintro e w2 ⟨rfl, hB2⟩
    have B2 := Lib.hid (Below.step hB1 hB2)
    clear hB1 hB2 C1
    go_wp2_with fail
    go_at_call 16
    refine (to_any a0 cap0 z0 w2 (HC.out.below B2.out) hn).mono ?_
    rintro e w3 ⟨g3, rfl, hO3, hB3⟩
    have C3 := Lib.hid (own_cells hO3)
    have B3 := Lib.hid (Below.step B2.out hB3)
    clear hO3 hB3 B2
    go_wp2_with fail
    go_at_call 17
    refine (are_impl _ _ _ z0 w3 C3.out (by omega)).mono ?_
    rintro e w4 ⟨rfl, hB4⟩
    have C4 := Lib.hid (C3.out.below hB4)
    have B4 := Lib.hid (Below.step B3.out hB4)
    clear hB4 B3 C3
    go_wp2_with fail
    go_at_call 16
    refine (to_any a0 cap0 z0 w4 (HC.out.below B4.out) hn).mono ?_
    rintro e w5 ⟨g5, rfl, hO5, hB5⟩
    have C5 := Lib.hid (own_cells hO5)
    have D5 := Lib.hid (C4.out.below hB5)
    have B5 := Lib.hid (Below.step B4.out hB5)
    clear hO5 hB5 B4 C4
    go_wp2_with fail
    go_at_call 18
    refine (MarkStamp.eq_same _ _ _ _ _ z0 w5 D5.out C5.out (by omega)).mono ?_
    rintro e w6 ⟨rfl, hB6⟩
    have B6 := Lib.hid (Below.step B5.out hB6)
    clear hB6 B5 C5 D5
    go_wp2
    go_ret
    exact ⟨rfl, B6.out⟩

theorem laid_met (os : Os) : laidMetH Try.prog Rows.fnExactAreStampsRow.laid ((World.holding Try.prog os ⟨#[], #[], []⟩).forCall (fun _ _ => 0) ⟨#[], #[.slice none 0 0], []⟩).memory :=
  laidMetH_of_parts3 (fuel := 8) (laidMet_of_run' 8 (by kernel_rfl) (by kernel_rfl)) (by kernel_rfl) (by kernel_rfl)
theorem reads (os : Os) {H : Type} (enc : TypeId × Value → H) : ∃ places, DataW.whole enc Try.prog ((World.holding Try.prog os ⟨#[], #[], []⟩).forCall (fun _ _ => 0) ⟨#[], #[.slice none 0 0], []⟩).memory Try.f4.params.toList Rows.fnExactAreStampsSpec.vars false (#[.slice none 0 0] : Array Value).toList 8 = some ([.nil], [], places) :=
  ⟨[], by kernel_rfl⟩

set_option maxRecDepth 100000 in
theorem lifted (os : Os) (started : os.Started) (H : Type) (enc : TypeId × Value → H) (F : Stop.Interp) :
    ReturnsInHanded {} Try.checked os 4 .any ((OpenSpec.ofChange Rows.fnExactAreStampsSpec).preRow enc Try.prog Try.f4 Rows.fnExactAreStampsRow.domain false Rows.fnExactAreStampsRow.laid) (((OpenSpec.ofChange Rows.fnExactAreStampsSpec).at F).post enc Try.prog Try.f4 false true false false) := by
  obtain ⟨places, hx⟩ := reads os enc
  refine returnsInHanded_of_row (C := Try.checked) (s := OpenSpec.ofChange Rows.fnExactAreStampsSpec) own started (by kernel_rfl) Try.func4
    (witness_row_atRef (enc := enc) (C := Try.checked) false (World.holding Try.prog os ⟨#[], #[], []⟩) #[.slice none 0 0] rfl (by kernel_rfl) (by kernel_rfl) (by kernel_rfl)
      (OpenSpec.preRow_of_cond 8 hx (by kernel_rfl) (fun k hk => by cases hk) (by kernel_rfl) (laid_met os))) ?_
  intro W base args ds gs before hval0 hW hcnd hcond hsz hL hsh _
  have hval : ∀ (j : Nat) t v, Try.f4.params[j]? = some t → args[j]? = some v → Value.okWide Try.prog W .any base t v := hval0
  have hW' := hW
  obtain ⟨p, q, hA0, hV, rfl, hfz, hnd⟩ := hW
  have hA : DataW.TrodAll enc Try.prog W 0 (fun _ => true) true Try.f4.params.toList args.toList ds p := hA0
  rw [Try.params4] at hA hval
  obtain ⟨v0, vs0, d0, ds0, p0, q0, hargs, rfl, rfl, h0, r0⟩ := trodAll_cons hA
  obtain ⟨rfl, rfl, rfl⟩ := trodAll_nil r0
  obtain rfl : args = #[v0] := by cases args; simp_all
  obtain ⟨rfl, rfl⟩ := trodVars_none hV
  obtain ⟨a0, len0, cap0, rfl⟩ := okWide_slice Try.underlying28 (hval 0 28 v0 rfl rfl)
  have k0 := h0
  have lt0 : ∀ x ∈ p0, x.block < W.heap.size := by obtain ⟨m, hm⟩ := k0; exact DataW.trod_lt m _ _ _ hm
  obtain ⟨z0, w0⟩ := open_stamps h0
  clear hA0 hval0
  refine (walk a0 len0 cap0 z0 W w0 hL hsh).mono fun e W' ⟨he, bel⟩ => ?_
  subst he
  exact ⟨_, rfl, _, _, _, [], _, [], hW', trodAll_mk1 (shut_bool Try.underlying4 _), (trodAll_cons_mk (Below.trod laidOut (by kernel_rfl) (of_decide_eq_true (by kernel_rfl)) k0 bel lt0) trodAll_mk0), rfl, bel.frame _, fun h => by cases h⟩

theorem over : Rows.fnExactAreStampsRow.holds Try.pinned (OpenSpec.ofChange Rows.fnExactAreStampsSpec) :=
  OpenClaim.holds_of_cond 4 Try.f4 rfl rfl rfl rfl rfl rfl rfl ⟨rfl, rfl, rfl, rfl, rfl⟩ rfl rfl rfl rfl rfl (by kernel_rfl) Try.func4 (by kernel_rfl)
    (of_decide_eq_true (by kernel_rfl)) (by unfold Func.isWrapper; first | (rw [if_pos (by decide +kernel)]; kernel_rfl) | (rw [if_neg (by decide +kernel)]; exact ⟨rfl, rfl⟩))
    (fun os started H enc _ F => by rw [OpenClaim.pre_eq_preRow]; exact lifted os started H enc F)

/-- THE STATEMENT -/
theorem proved : Rows.FnExactAreStampsSaid :=
  over
#print axioms proved
end Go.Proofs.Ytmbfekfpahlmfaa.fnExactAreStamps
