/- CanFrank of the program answers as the reference model at every argument, writes into no argument, and its answer owns its memory: the law returns true at every input that fits the row. No condition of its own. -/
import Derived.Test.YtmbfekfpahlmfaaRows
import Derived.WalkKit
import Derived.ProofKit
import Derived.OpenShut
import Derived.ShutString
import Derived.ChangeOld
import Derived.Below
import Derived.Deep.DeepHandedRow
import Derived.Deep.DeepWitnessRowRef
import Derived.LaidMore
import Derived.Test.YtmbfekfpahlmfaaFrank
import Derived.Test.YtmbfekfpahlmfaaPlainFrank
import Derived.Test.YtmbfekfpahlmfaaMarkStamp
import Derived.Outline
import Derived.Test.YtmbfekfpahlmfaaOpenStamp
namespace Go.Proofs.Ytmbfekfpahlmfaa.fnExactCanFrank
open Go.ChangeShapes Go.WideShapes Go.ChangeAt Go.RowKit
open Go.ChangeMaps (open_string shut_string)
open Go.Proofs.Ytmbfekfpahlmfaa.Rowed Go.Proofs.Ytmbfekfpahlmfaa.HelpStamp Go.Proofs.Ytmbfekfpahlmfaa.HelpInt Go.Proofs.Ytmbfekfpahlmfaa.OutInt Go.Proofs.Ytmbfekfpahlmfaa.Frank Go.Proofs.Ytmbfekfpahlmfaa.PlainFrank
open Go.Proofs.Ytmbfekfpahlmfaa.OpenStamp Go.Proofs.Ytmbfekfpahlmfaa.PlainStamp
set_option linter.unusedVariables false

theorem own : ownKnob Try.prog.godebug = none := by kernel_rfl
theorem laidOut : laidOutB Try.prog = true := by kernel_rfl

/-- THE WALK -/
theorem walk (a0 : Option Addr) (len0 cap0 : Nat) (z0 : List St) (a1 : Int) (w : World) (w0 : Came w a0 len0 cap0 z0) (w1 : (Lit.int .i64 a1).wf = true) (hL : laidMetH Try.prog Rows.fnExactCanFrankRow.laid w) (hsh : w.ShapedOpen Try.prog) :
    Calls Try.prog 8 #[.slice a0 len0 cap0, .int .i64 a1] w fun e w' => e = .returned (.bool true) ∧ Below w.heap.size w w' := by
  have HC := Lib.hid w0.cells
  have hlm := w0.small
  obtain rfl := w0.len
  clear hL hsh w0 w1
  unfold maxLen at hlm
  by_cases hbig : 1048576 < z0.length
  · go_enter Try.func8, Try.ntmps8
    go_wp2_with (go_at_call 14; refine (sz_neg a0 _ cap0 _ hbig (by omega)).mono ?_; rintro e w' ⟨rfl, rfl⟩)
    go_ret
    exact ⟨rfl, Below.refl _ _⟩
  · have hn : z0.length ≤ 1048576 := by omega
    clear hbig hlm
    obtain ⟨⟨r, b⟩, hR⟩ : ∃ R, R = franks z0 a1 := ⟨_, rfl⟩
    have hlen : r.length ≤ 1048576 := by
      have h := franks_len z0 a1
      rw [← hR] at h; exact h
    have HS : Hid (∀ A c W, Sts W A z0.length z0 → Calls Try.prog 30 #[.slice A z0.length c, .int .i64 a1] W (OutPost (r, b) W)) := Lib.hid (fun A c W h => by rw [hR]; exact frank_spec A c z0 a1 W h hn)
    have HI : Hid (∀ A c W, Sts W A z0.length z0 → Calls Try.prog 31 #[.slice A z0.length c, .int .i64 a1] W (OutPost (r, b) W)) := Lib.hid (fun A c W h => by rw [hR]; exact frank_impl A c z0 a1 W h hn)
    clear hR
    go_enter Try.func8, Try.ntmps8
    go_wp2_with (go_at_call 14; refine (sz_pos a0 _ cap0 _ hn).mono ?_; rintro e w' ⟨rfl, rfl⟩)
    go_at_call 16
    refine (to_any a0 cap0 z0 _ HC.out hn).mono ?_
    rintro e w1 ⟨g1, rfl, hO1, hB1⟩
    have C1 := Lib.hid (own_cells hO1)
    have B1 := Lib.hid hB1
    clear hO1 hB1
    go_wp2_with fail
    go_at_call 30
    refine (HS.out _ _ w1 C1.out).mono ?_
    rintro e w2 ⟨AW, cW, rfl, hK2⟩
    have B2 := Lib.hid (Below.step B1.out hK2.bel)
    have W2 := Lib.hid (own_cells hK2.own)
    have SW : Hid (∀ q, (Value.slice AW r.length cW).ownBlock = some q → w.heap.size ≤ q ∧ q < w2.heap.size) := Lib.hid (fun q hq => by have h1 := own_base_le hK2.own hq; have h2 := B1.out.size; omega)
    clear hK2 C1 B1
    go_wp2_with fail
    go_at_call 16
    refine (to_any a0 cap0 z0 w2 (HC.out.below B2.out) hn).mono ?_
    rintro e w3 ⟨g3, rfl, hO3, hB3⟩
    have X3 := Lib.hid hO3
    have C3 := Lib.hid (own_cells hO3)
    have S3 : Hid (w2.heap.size ≤ g3 ∧ g3 < w3.heap.size) := Lib.hid (own_base_le hO3 rfl)
    have L2 : Hid (w.heap.size ≤ w2.heap.size) := Lib.hid B2.out.size
    have B3 := Lib.hid (Below.step B2.out hB3)
    have W3 := Lib.hid (W2.out.below hB3)
    clear hO3 hB3 B2 W2
    go_wp2_with fail
    go_at_call 31
    refine (HI.out _ _ w3 C3.out).mono ?_
    rintro e w4 ⟨AG, cG, rfl, hK4⟩
    have G4 := Lib.hid hK4.own
    have SG : Hid (∀ q, (Value.slice AG r.length cG).ownBlock = some q → w3.heap.size ≤ q) := Lib.hid (fun q hq => (own_base_le hK4.own hq).1)
    have B4 := Lib.hid (Below.step B3.out hK4.bel)
    have W4 := Lib.hid (W3.out.below hK4.bel)
    have X4 := Lib.hid (own_below X3.out hK4.bel)
    have L3 : Hid (w.heap.size ≤ w3.heap.size) := Lib.hid B3.out.size
    clear hK4 B3 W3 X3 C3
    go_wp2_with fail
    go_at_call 21
    refine (HelpInt.eq_same _ _ _ _ _ r w4 (own_cells G4.out) W4.out (by omega)).mono ?_
    rintro e w5 ⟨rfl, hD⟩
    have G5 := Lib.hid (own_below G4.out hD.below)
    have B5 := Lib.hid (Below.step B4.out hD.below)
    have W5 := Lib.hid (W4.out.below hD.below)
    have X5 := Lib.hid (own_below X4.out hD.below)
    clear hD G4 B4 W4 X4
    go_wp2_with fail
    go_at_call 16
    refine (to_any a0 cap0 z0 w5 (HC.out.below B5.out) hn).mono ?_
    rintro e w6 ⟨g6, rfl, hO6, hB6⟩
    have C6 := Lib.hid (own_cells hO6)
    have G6 := Lib.hid (own_below G5.out hB6)
    have B6 := Lib.hid (Below.step B5.out hB6)
    have W6 := Lib.hid (W5.out.below hB6)
    have X6 := Lib.hid (own_below X5.out hB6)
    clear hO6 hB6 G5 B5 W5 X5
    go_wp2_with fail
    go_at_call 18
    refine (MarkStamp.eq_same _ _ _ _ _ z0 w6 (own_cells X6.out) C6.out (by omega)).mono ?_
    rintro e w7 ⟨rfl, hB7⟩
    have G7 := Lib.hid (own_below G6.out hB7)
    have B7 := Lib.hid (Below.step B6.out hB7)
    have W7 := Lib.hid (W6.out.below hB7)
    have X7 := Lib.hid (own_below X6.out hB7)
    clear hB7 G6 B6 W6 X6 C6
    go_wp2_with fail
    go_at_call 22
    refine (MarkStamp.mark_any w7 _ g3 _ _ _ X7.out hn).mono ?_
    rintro e w8 ⟨rfl, hG8⟩
    have G8 := Lib.hid (own_grown G7.out hG8 (fun q hq e => by injection e with e; have h1 := SG.out q hq; have h2 := S3.out; omega))
    have B8 := Lib.hid (B7.out.grown hG8 B7.out.size (by intro k e; injection e with e; have h1 := S3.out; have h2 := L2.out; omega))
    have W8 := Lib.hid (cells_grown W7.out hG8 (fun a ha e => by injection e with e; have h1 := SW.out a.block (by rw [ha]; rfl); have h2 := S3.out; omega))
    clear hG8 G7 B7 W7 X7
    go_wp2_with fail
    go_at_call 21
    refine (HelpInt.eq_same _ _ _ _ _ r w8 (own_cells G8.out) W8.out (by omega)).mono ?_
    rintro e w9 ⟨rfl, hD⟩
    have G9 := Lib.hid (own_below G8.out hD.below)
    have B9 := Lib.hid (Below.step B8.out hD.below)
    have W9 := Lib.hid (W8.out.below hD.below)
    clear hD G8 B8 W8
    go_wp2_with fail
    go_at_call 23
    refine (HelpInt.mark_any w9 _ _ _ 1 AG _ G9.out hlen (by omega)).mono ?_
    rintro e w10 ⟨rfl, hO10, hG10⟩
    have G10 := Lib.hid hO10
    have B10 := Lib.hid (B9.out.grown hG10 B9.out.size (by intro q e; have h1 := SG.out q e; have h2 := L3.out; omega))
    have W10 := Lib.hid (cells_grown W9.out hG10 (fun a ha e => by have h1 := SW.out a.block (by rw [ha]; rfl); have h2 := SG.out _ e; have h3 := S3.out; omega))
    clear hO10 hG10 G9 B9 W9
    go_wp2_with fail
    go_at_call 24
    refine (HelpInt.held_any w10 _ _ 1 AG (own_cells G10.out) hlen (by omega)).mono ?_
    rintro e w11 ⟨rfl, rfl⟩
    go_wp2_with fail
    go_at_call 16
    refine (to_any a0 cap0 z0 w10 (HC.out.below B10.out) hn).mono ?_
    rintro e w12 ⟨g12, rfl, hO12, hB12⟩
    have C12 := Lib.hid (own_cells hO12)
    have G12 := Lib.hid (own_below G10.out hB12)
    have B12 := Lib.hid (Below.step B10.out hB12)
    have W12 := Lib.hid (W10.out.below hB12)
    clear hO12 hB12 G10 B10 W10
    go_wp2_with fail
    go_at_call 31
    refine (HI.out _ _ w12 C12.out).mono ?_
    rintro e w13 ⟨AH, cH, rfl, hK13⟩
    have H13 := Lib.hid (own_cells hK13.own)
    have G13 := Lib.hid (own_below G12.out hK13.bel)
    have B13 := Lib.hid (Below.step B12.out hK13.bel)
    have W13 := Lib.hid (W12.out.below hK13.bel)
    clear hK13 G12 B12 W12 C12
    go_wp2_with fail
    go_at_call 21
    refine (HelpInt.eq_same _ _ _ _ _ r w13 H13.out W13.out (by omega)).mono ?_
    rintro e w14 ⟨rfl, hD⟩
    have G14 := Lib.hid (own_below G13.out hD.below)
    have B14 := Lib.hid (Below.step B13.out hD.below)
    clear hD G13 B13 W13 H13
    go_wp2_with fail
    go_at_call 24
    refine (HelpInt.held_any w14 _ _ 1 AG (own_cells G14.out) hlen (by omega)).mono ?_
    rintro e w15 ⟨rfl, rfl⟩
    go_wp2
    go_ret
    exact ⟨rfl, B14.out⟩

theorem laid_met (os : Os) : laidMetH Try.prog Rows.fnExactCanFrankRow.laid ((World.holding Try.prog os ⟨#[], #[], []⟩).forCall (fun _ _ => 0) ⟨#[], #[.slice none 0 0, .int .i64 0], []⟩).memory :=
  laidMetH_of_parts3 (fuel := 8) (laidMet_of_run' 8 (by kernel_rfl) (by kernel_rfl)) (by kernel_rfl) (by kernel_rfl)
theorem reads (os : Os) {H : Type} (enc : TypeId × Value → H) : ∃ places, DataW.whole enc Try.prog ((World.holding Try.prog os ⟨#[], #[], []⟩).forCall (fun _ _ => 0) ⟨#[], #[.slice none 0 0, .int .i64 0], []⟩).memory Try.f8.params.toList Rows.fnExactCanFrankSpec.vars false (#[.slice none 0 0, .int .i64 0] : Array Value).toList 8 = some ([.nil, .lit (.int .i64 0)], [], places) :=
  ⟨[], by kernel_rfl⟩

set_option maxRecDepth 100000 in
theorem lifted (os : Os) (started : os.Started) (H : Type) (enc : TypeId × Value → H) (F : Stop.Interp) :
    ReturnsInHanded {} Try.checked os 8 .any ((OpenSpec.ofChange Rows.fnExactCanFrankSpec).preRow enc Try.prog Try.f8 Rows.fnExactCanFrankRow.domain false Rows.fnExactCanFrankRow.laid) (((OpenSpec.ofChange Rows.fnExactCanFrankSpec).at F).post enc Try.prog Try.f8 false true false false) := by
  obtain ⟨places, hx⟩ := reads os enc
  refine returnsInHanded_of_row (C := Try.checked) (s := OpenSpec.ofChange Rows.fnExactCanFrankSpec) own started (by kernel_rfl) Try.func8
    (witness_row_atRef (enc := enc) (C := Try.checked) false (World.holding Try.prog os ⟨#[], #[], []⟩) #[.slice none 0 0, .int .i64 0] rfl (by kernel_rfl) (by kernel_rfl) (by kernel_rfl)
      (OpenSpec.preRow_of_cond 8 hx (by kernel_rfl) (fun k hk => by cases hk) (by kernel_rfl) (laid_met os))) ?_
  intro W base args ds gs before hval0 hW hcnd hcond hsz hL hsh _
  have hval : ∀ (j : Nat) t v, Try.f8.params[j]? = some t → args[j]? = some v → Value.okWide Try.prog W .any base t v := hval0
  have hW' := hW
  obtain ⟨p, q, hA0, hV, rfl, hfz, hnd⟩ := hW
  have hA : DataW.TrodAll enc Try.prog W 0 (fun _ => true) true Try.f8.params.toList args.toList ds p := hA0
  rw [Try.params8] at hA hval
  obtain ⟨v0, vs0, d0, ds0, p0, q0, hargs, rfl, rfl, h0, r0⟩ := trodAll_cons hA
  obtain ⟨v1, vs1, d1, ds1, p1, q1, rfl, rfl, rfl, h1, r1⟩ := trodAll_cons r0
  obtain ⟨rfl, rfl, rfl⟩ := trodAll_nil r1
  obtain rfl : args = #[v0, v1] := by cases args; simp_all
  obtain ⟨rfl, rfl⟩ := trodVars_none hV
  obtain ⟨a0, len0, cap0, rfl⟩ := okWide_slice Try.underlying28 (hval 0 28 v0 rfl rfl)
  have k0 := h0
  have lt0 : ∀ x ∈ p0, x.block < W.heap.size := by obtain ⟨m, hm⟩ := k0; exact DataW.trod_lt m _ _ _ hm
  obtain ⟨z0, w0⟩ := open_stamps h0
  obtain ⟨a1, rfl, rfl, rfl, w1⟩ := open_int Try.underlying3 (hval 1 3 v1 rfl rfl) h1
  clear hA0 hval0
  refine (walk a0 len0 cap0 z0 a1 W w0 w1 hL hsh).mono fun e W' ⟨he, bel⟩ => ?_
  subst he
  exact ⟨_, rfl, _, _, _, [], _, [], hW', trodAll_mk1 (shut_bool Try.underlying4 _), (trodAll_cons_mk (Below.trod laidOut (by kernel_rfl) (of_decide_eq_true (by kernel_rfl)) k0 bel lt0) (trodAll_cons_mk (shut_int Try.underlying3 w1) trodAll_mk0)), rfl, bel.frame _, fun h => by cases h⟩

theorem over : Rows.fnExactCanFrankRow.holds Try.pinned (OpenSpec.ofChange Rows.fnExactCanFrankSpec) :=
  OpenClaim.holds_of_cond 8 Try.f8 rfl rfl rfl rfl rfl rfl rfl ⟨rfl, rfl, rfl, rfl, rfl⟩ rfl rfl rfl rfl rfl (by kernel_rfl) Try.func8 (by kernel_rfl)
    (of_decide_eq_true (by kernel_rfl)) (by unfold Func.isWrapper; first | (rw [if_pos (by decide +kernel)]; kernel_rfl) | (rw [if_neg (by decide +kernel)]; exact ⟨rfl, rfl⟩))
    (fun os started H enc _ F => by rw [OpenClaim.pre_eq_preRow]; exact lifted os started H enc F)

/-- THE STATEMENT -/
theorem proved : Rows.FnExactCanFrankSaid :=
  over
#print axioms proved
end Go.Proofs.Ytmbfekfpahlmfaa.fnExactCanFrank
