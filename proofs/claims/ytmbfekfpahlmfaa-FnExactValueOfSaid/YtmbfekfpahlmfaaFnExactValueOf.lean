/- ValueOf of the program answers as the reference model at every argument and writes into no argument: the law returns true at every input that fits the row. No condition of its own. -/
import Derived.Test.YtmbfekfpahlmfaaRows
import Derived.WalkKit
import Derived.ProofKit
import Derived.OpenShut
import Derived.ShutString
import Derived.ChangeOld
import Derived.Below
import Derived.Deep.DeepHandedRow
import Derived.Deep.DeepWitnessRowRef
import Derived.LaidMore
import Derived.Test.YtmbfekfpahlmfaaRStamp
import Derived.Test.YtmbfekfpahlmfaaRInt
import Derived.Test.YtmbfekfpahlmfaaTurn
import Derived.Test.YtmbfekfpahlmfaaAid
import Derived.Test.YtmbfekfpahlmfaaOutInt
import Derived.Test.YtmbfekfpahlmfaaHelpInt
import Derived.Test.YtmbfekfpahlmfaaValue
import Derived.Test.YtmbfekfpahlmfaaPlainValue
import Derived.Outline
import Derived.Test.YtmbfekfpahlmfaaOpenStamp
namespace Go.Proofs.Ytmbfekfpahlmfaa.fnExactValueOf
open Go.ChangeShapes Go.WideShapes Go.ChangeAt Go.RowKit
open Go.ChangeMaps (open_string shut_string)
open Go.Proofs.Ytmbfekfpahlmfaa.Rowed Go.Proofs.Ytmbfekfpahlmfaa.Turn Go.Proofs.Ytmbfekfpahlmfaa.Aid Go.Proofs.Ytmbfekfpahlmfaa.HelpInt Go.Proofs.Ytmbfekfpahlmfaa.OutInt Go.Proofs.Ytmbfekfpahlmfaa.Value Go.Proofs.Ytmbfekfpahlmfaa.PlainValue
open Go.Proofs.Ytmbfekfpahlmfaa.OpenStamp Go.Proofs.Ytmbfekfpahlmfaa.PlainStamp
set_option linter.unusedVariables false

theorem own : ownKnob Try.prog.godebug = none := by kernel_rfl
theorem laidOut : laidOutB Try.prog = true := by kernel_rfl

/-- A slice of integers that came in: nil, or a row of 'cap' cells with the numbers 'zs'. -/
def IsRow (k : IntKind) (w : World) (a : Option Addr) (len cap : Nat) (zs : List Int) : Prop :=
  (a = none ∧ len = 0 ∧ cap = 0 ∧ zs = []) ∨
  ∃ x, a = some x ∧ len ≤ cap ∧ cap ≤ maxLen ∧ zs.length = cap ∧ (∀ i, i < zs.length → w.cell? (x.add i) = some (.int k (zs.getD i 0))) ∧ ∀ n ∈ zs, (Lit.int k n).wf = true

theorem row_of {w : World} {a : Option Addr} {len cap : Nat} {zs : List Int} (h : IsRow .i64 w a len cap zs) : ∃ l : List Int, Cells w 1 a len (HelpInt.iv l) ∧ l.length = len ∧ len ≤ maxLen ∧ ∀ n ∈ l, (Lit.int .i64 n).wf = true := by
  rcases h with ⟨rfl, rfl, rfl, rfl⟩ | ⟨x, rfl, hl, hm, hz, hc, hw⟩
  · exact ⟨[], Cells.nil_ _ _ _, rfl, by unfold maxLen; omega, by intro n hn; simp at hn⟩
  · refine ⟨zs.take len, ⟨by rw [HelpInt.iv_len, List.length_take]; omega, fun _ => ⟨x, rfl, fun j u hu => ?_⟩⟩, by rw [List.length_take]; omega, by omega, fun n hn => hw n (List.mem_of_mem_take hn)⟩
    rw [HelpInt.iv_at] at hu
    have hj : j < (zs.take len).length := by
      cases hq : (zs.take len)[j]? with
      | none => rw [hq] at hu; simp at hu
      | some q => exact (List.getElem?_eq_some_iff.1 hq).1
    rw [List.length_take] at hj
    rw [List.getElem?_take, if_pos (by omega), List.getElem?_eq_getElem (by omega)] at hu
    obtain rfl : Value.int .i64 zs[j] = u := by simpa using hu
    rw [hc j (by omega), List.getD_eq_getElem?_getD, List.getElem?_eq_getElem (by omega)]
    rfl

/-- THE WALK -/
theorem walk (a0 : Option Addr) (len0 cap0 : Nat) (z0 : List St) (a1 : Option Addr) (len1 cap1 : Nat) (z1 : List Int) (w : World) (w0 : Came w a0 len0 cap0 z0) (w1 : IsRow .i64 w a1 len1 cap1 z1) (hL : laidMetH Try.prog Rows.fnExactValueOfRow.laid w) (hsh : w.ShapedOpen Try.prog) :
    Calls Try.prog 7 #[.slice a0 len0 cap0, .slice a1 len1 cap1] w fun e w' => e = .returned (.bool true) ∧ Below w.heap.size w w' := by
  have HC0 := Lib.hid w0.cells
  have hlm0 := w0.small
  have HF0 := Lib.hid w0.fits
  obtain rfl := w0.len
  obtain ⟨y0, rfl⟩ : ∃ y, y = z0 := ⟨_, rfl⟩
  clear w0
  unfold maxLen at hlm0
  obtain ⟨y1, hc1, rfl, hlm1, hf1⟩ := row_of w1
  have HC1 := Lib.hid hc1
  have HF1 := Lib.hid hf1
  clear hc1 hf1 w1
  unfold maxLen at hlm1
  clear hL hsh
  by_cases hbig0 : 1048576 < y1.length
  · go_enter Try.func7, Try.ntmps7
    go_wp2_with fail
    go_ret
    exact ⟨rfl, Below.refl _ _⟩
  · have hok0 : ¬ 1048576 < y1.length := hbig0
    clear hbig0
    by_cases hbig1 : 1048576 < y0.length
    · go_enter Try.func7, Try.ntmps7
      go_wp2_with fail
      go_at_call 14
      refine (RStamp.sz_neg a0 _ cap0 1048576 _ (by omega) (by omega) (by omega)).mono ?_
      rintro e w' ⟨rfl, rfl⟩
      go_wp2_with fail
      go_ret
      exact ⟨rfl, Below.refl _ _⟩
    · have hok1 : ¬ 1048576 < y0.length := hbig1
      clear hbig1
      have hn0 : y0.length ≤ 1048576 := by omega
      have hn1 : y1.length ≤ 1048576 := by omega
      obtain ⟨⟨r0, r1⟩, hR⟩ : ∃ R, R = valRes y0 y1 := ⟨_, rfl⟩
      have HS : Hid (∀ A0 c0 A1 c1 W, Cells W 4 A0 y0.length (PlainStamp.flat y0) → Cells W 1 A1 y1.length (iv y1) → Calls Try.prog 27 #[.slice A0 y0.length c0, .slice A1 y1.length c1] W (Gives (.tuple #[.int .i64 r0, .bool r1]) W)) := Lib.hid (fun A0 c0 A1 c1 W h0 h1 => by have h := value_spec A0 c0 y0 A1 c1 y1 W h0 h1 hn0 hn1; rw [← hR] at h; exact h)
      have HI : Hid (∀ A0 c0 A1 c1 W, Cells W 4 A0 y0.length (PlainStamp.flat y0) → Cells W 1 A1 y1.length (iv y1) → Calls Try.prog 29 #[.slice A0 y0.length c0, .slice A1 y1.length c1] W (Gives (.tuple #[.int .i64 r0, .bool r1]) W)) := Lib.hid (fun A0 c0 A1 c1 W h0 h1 => by have h := value_impl A0 c0 y0 A1 c1 y1 W h0 h1 hn0 hn1; rw [← hR] at h; exact h)
      clear hR
      go_enter Try.func7, Try.ntmps7
      go_wp2_with fail
      go_at_call 14
      refine (RStamp.sz_pos a0 _ cap0 1048576 _ (by omega) (by omega)).mono ?_
      rintro e w' ⟨rfl, rfl⟩
      have B0 : Hid (Below w.heap.size w w) := Lib.hid (Below.refl _ _)
      have P0_0 := Lib.hid (Rd.came HC0.out)
      have P1_0 := Lib.hid (Rd.came HC1.out)
      clear HC0
      clear HC1
      go_wp2_with fail
      go_at_call 16
      refine (RStamp.to_any a0 cap0 y0 _ P0_0.out.cells hn0).mono ?_
      rintro e w1x ⟨g1, rfl, hO, hB⟩
      have O1_1 := Lib.hid (Ow.of hO)
      have S1 : Hid (w.heap.size ≤ w1x.heap.size) := Lib.hid hB.size
      have P0_1 := Lib.hid (P0_0.out.below hB)
      have P1_1 := Lib.hid (P1_0.out.below hB)
      have B1n := Lib.hid (Below.step B0.out hB)
      clear P0_0 P1_0 B0
      clear hO hB
      go_wp2_with fail
      go_at_call 28
      refine (RInt.to_any a1 cap1 y1 _ P1_1.out.cells hn1).mono ?_
      rintro e w2x ⟨g2, rfl, hO, hB⟩
      have O2_2 := Lib.hid (Ow.of hO)
      have S2 : Hid (w1x.heap.size ≤ w2x.heap.size) := Lib.hid hB.size
      have P0_2 := Lib.hid (P0_1.out.below hB)
      have P1_2 := Lib.hid (P1_1.out.below hB)
      have O1_2 := Lib.hid (O1_1.out.below hB)
      have B2n := Lib.hid (Below.step B1n.out hB)
      clear P0_1 P1_1 O1_1 B1n
      clear hO hB
      go_wp2_with fail
      go_at_call 27
      refine (HS.out _ _ _ _ _ O1_2.out.cells O2_2.out.cells).mono ?_
      rintro e w3x ⟨rfl, hB⟩
      have S3 : Hid (w2x.heap.size ≤ w3x.heap.size) := Lib.hid hB.size
      have P0_3 := Lib.hid (P0_2.out.below hB)
      have P1_3 := Lib.hid (P1_2.out.below hB)
      have B3n := Lib.hid (Below.step B2n.out hB)
      clear P0_2 P1_2 O1_2 O2_2 B2n
      clear hB
      go_wp2_with fail
      go_at_call 16
      refine (RStamp.to_any a0 cap0 y0 _ P0_3.out.cells hn0).mono ?_
      rintro e w4x ⟨g4, rfl, hO, hB⟩
      have O4_4 := Lib.hid (Ow.of hO)
      have S4 : Hid (w3x.heap.size ≤ w4x.heap.size) := Lib.hid hB.size
      have P0_4 := Lib.hid (P0_3.out.below hB)
      have P1_4 := Lib.hid (P1_3.out.below hB)
      have B4n := Lib.hid (Below.step B3n.out hB)
      clear P0_3 P1_3 B3n
      clear hO hB
      go_wp2_with fail
      go_at_call 28
      refine (RInt.to_any a1 cap1 y1 _ P1_4.out.cells hn1).mono ?_
      rintro e w5x ⟨g5, rfl, hO, hB⟩
      have O5_5 := Lib.hid (Ow.of hO)
      have S5 : Hid (w4x.heap.size ≤ w5x.heap.size) := Lib.hid hB.size
      have P0_5 := Lib.hid (P0_4.out.below hB)
      have P1_5 := Lib.hid (P1_4.out.below hB)
      have O4_5 := Lib.hid (O4_4.out.below hB)
      have B5n := Lib.hid (Below.step B4n.out hB)
      clear P0_4 P1_4 O4_4 B4n
      clear hO hB
      go_wp2_with fail
      go_at_call 29
      refine (HI.out _ _ _ _ _ O4_5.out.cells O5_5.out.cells).mono ?_
      rintro e w6x ⟨rfl, hB⟩
      have S6 : Hid (w5x.heap.size ≤ w6x.heap.size) := Lib.hid hB.size
      have P0_6 := Lib.hid (P0_5.out.below hB)
      have P1_6 := Lib.hid (P1_5.out.below hB)
      have O4_6 := Lib.hid (O4_5.out.below hB)
      have O5_6 := Lib.hid (O5_5.out.below hB)
      have B6n := Lib.hid (Below.step B5n.out hB)
      clear P0_5 P1_5 O4_5 O5_5 B5n
      clear hB
      go_wp2_with fail
      go_at_call 16
      refine (RStamp.to_any a0 cap0 y0 _ P0_6.out.cells hn0).mono ?_
      rintro e w7x ⟨g7, rfl, hO, hB⟩
      have O7_7 := Lib.hid (Ow.of hO)
      have S7 : Hid (w6x.heap.size ≤ w7x.heap.size) := Lib.hid hB.size
      have P1_7 := Lib.hid (P1_6.out.below hB)
      have O4_7 := Lib.hid (O4_6.out.below hB)
      have O5_7 := Lib.hid (O5_6.out.below hB)
      have B7n := Lib.hid (Below.step B6n.out hB)
      clear P0_6 P1_6 O4_6 O5_6 B6n
      clear hO hB
      go_wp2_with fail
      go_at_call 18
      refine (RStamp.eq_same _ _ _ _ _ y0 _ O4_7.out.cells O7_7.out.cells (by omega)).mono ?_
      rintro e w8x ⟨rfl, hB⟩
      have S8 : Hid (w7x.heap.size ≤ w8x.heap.size) := Lib.hid hB.size
      have P1_8 := Lib.hid (P1_7.out.below hB)
      have O5_8 := Lib.hid (O5_7.out.below hB)
      have B8n := Lib.hid (Below.step B7n.out hB)
      clear P1_7 O4_7 O5_7 O7_7 B7n
      clear hB
      go_wp2_with fail
      go_at_call 28
      refine (RInt.to_any a1 cap1 y1 _ P1_8.out.cells hn1).mono ?_
      rintro e w9x ⟨g9, rfl, hO, hB⟩
      have O9_9 := Lib.hid (Ow.of hO)
      have S9 : Hid (w8x.heap.size ≤ w9x.heap.size) := Lib.hid hB.size
      have O5_9 := Lib.hid (O5_8.out.below hB)
      have B9n := Lib.hid (Below.step B8n.out hB)
      clear P1_8 O5_8 B8n
      clear hO hB
      go_wp2_with fail
      go_at_call 21
      refine (HelpInt.eq_same _ _ _ _ _ y1 _ O5_9.out.cells O9_9.out.cells (by omega)).mono ?_
      rintro e w10x ⟨rfl, hB⟩
      have hB := hB.below
      have S10 : Hid (w9x.heap.size ≤ w10x.heap.size) := Lib.hid hB.size
      have B10n := Lib.hid (Below.step B9n.out hB)
      clear O5_9 O9_9 B9n
      clear hB
      go_wp2_with fail
      go_ret
      exact ⟨rfl, B10n.out⟩

theorem laid_met (os : Os) : laidMetH Try.prog Rows.fnExactValueOfRow.laid ((World.holding Try.prog os ⟨#[], #[], []⟩).forCall (fun _ _ => 0) ⟨#[], #[.slice none 0 0, .slice none 0 0], []⟩).memory :=
  laidMetH_of_parts3 (fuel := 8) (laidMet_of_run' 8 (by kernel_rfl) (by kernel_rfl)) (by kernel_rfl) (by kernel_rfl)
theorem reads (os : Os) {H : Type} (enc : TypeId × Value → H) : ∃ places, DataW.whole enc Try.prog ((World.holding Try.prog os ⟨#[], #[], []⟩).forCall (fun _ _ => 0) ⟨#[], #[.slice none 0 0, .slice none 0 0], []⟩).memory Try.f7.params.toList Rows.fnExactValueOfSpec.vars false (#[.slice none 0 0, .slice none 0 0] : Array Value).toList 8 = some ([.nil, .nil], [], places) :=
  ⟨[], by kernel_rfl⟩

set_option maxRecDepth 100000 in
theorem lifted (os : Os) (started : os.Started) (H : Type) (enc : TypeId × Value → H) (F : Stop.Interp) :
    ReturnsInHanded {} Try.checked os 7 .any ((OpenSpec.ofChange Rows.fnExactValueOfSpec).preRow enc Try.prog Try.f7 Rows.fnExactValueOfRow.domain false Rows.fnExactValueOfRow.laid) (((OpenSpec.ofChange Rows.fnExactValueOfSpec).at F).post enc Try.prog Try.f7 false true false false) := by
  obtain ⟨places, hx⟩ := reads os enc
  refine returnsInHanded_of_row (C := Try.checked) (s := OpenSpec.ofChange Rows.fnExactValueOfSpec) own started (by kernel_rfl) Try.func7
    (witness_row_atRef (enc := enc) (C := Try.checked) false (World.holding Try.prog os ⟨#[], #[], []⟩) #[.slice none 0 0, .slice none 0 0] rfl (by kernel_rfl) (by kernel_rfl) (by kernel_rfl)
      (OpenSpec.preRow_of_cond 8 hx (by kernel_rfl) (fun k hk => by cases hk) (by kernel_rfl) (laid_met os))) ?_
  intro W base args ds gs before hval0 hW hcnd hcond hsz hL hsh _
  have hval : ∀ (j : Nat) t v, Try.f7.params[j]? = some t → args[j]? = some v → Value.okWide Try.prog W .any base t v := hval0
  have hW' := hW
  obtain ⟨p, q, hA0, hV, rfl, hfz, hnd⟩ := hW
  have hA : DataW.TrodAll enc Try.prog W 0 (fun _ => true) true Try.f7.params.toList args.toList ds p := hA0
  rw [Try.params7] at hA hval
  obtain ⟨v0, vs0, d0, ds0, p0, q0, hargs, rfl, rfl, h0, r0⟩ := trodAll_cons hA
  obtain ⟨v1, vs1, d1, ds1, p1, q1, rfl, rfl, rfl, h1, r1⟩ := trodAll_cons r0
  obtain ⟨rfl, rfl, rfl⟩ := trodAll_nil r1
  obtain rfl : args = #[v0, v1] := by cases args; simp_all
  obtain ⟨rfl, rfl⟩ := trodVars_none hV
  obtain ⟨a0, len0, cap0, rfl⟩ := okWide_slice Try.underlying28 (hval 0 28 v0 rfl rfl)
  have k0 := h0
  have lt0 : ∀ x ∈ p0, x.block < W.heap.size := by obtain ⟨m, hm⟩ := k0; exact DataW.trod_lt m _ _ _ hm
  obtain ⟨z0, w0⟩ := open_stamps h0
  obtain ⟨a1, len1, cap1, rfl⟩ := okWide_slice Try.underlying35 (hval 1 35 v1 rfl rfl)
  have k1 := h1
  have lt1 : ∀ x ∈ p1, x.block < W.heap.size := by obtain ⟨m, hm⟩ := k1; exact DataW.trod_lt m _ _ _ hm
  obtain ⟨z1, w1⟩ : ∃ zs, IsRow .i64 W a1 len1 cap1 zs := by
    obtain ⟨fuel, hf⟩ := h1
    rcases open_ints Try.underlying35 Try.underlying3 (by kernel_rfl) hf with ⟨hcs, _⟩ | ⟨x, l, c, zs, hcs, hxb, hl, hm, hz, hdat, hcell, hwz⟩
    · simp [Value.cells] at hcs
      obtain ⟨rfl, rfl, rfl⟩ := hcs
      exact ⟨[], .inl ⟨rfl, rfl, rfl, rfl⟩⟩
    · simp [Value.cells] at hcs
      obtain ⟨rfl, rfl, rfl⟩ := hcs
      have hz' : zs.length = cap1 := by simpa using hz
      exact ⟨zs, .inr ⟨_, rfl, hl, hm, hz', hcell, hwz⟩⟩
  clear hA0 hval0
  refine (walk a0 len0 cap0 z0 a1 len1 cap1 z1 W w0 w1 hL hsh).mono fun e W' ⟨he, bel⟩ => ?_
  subst he
  exact ⟨_, rfl, _, _, _, [], _, [], hW', trodAll_mk1 (shut_bool Try.underlying4 _), (trodAll_cons_mk (Below.trod laidOut (by kernel_rfl) (of_decide_eq_true (by kernel_rfl)) k0 bel lt0) (trodAll_cons_mk (Below.trod laidOut (by kernel_rfl) (of_decide_eq_true (by kernel_rfl)) k1 bel lt1) trodAll_mk0)), rfl, bel.frame _, fun h => by cases h⟩

theorem over : Rows.fnExactValueOfRow.holds Try.pinned (OpenSpec.ofChange Rows.fnExactValueOfSpec) :=
  OpenClaim.holds_of_cond 7 Try.f7 rfl rfl rfl rfl rfl rfl rfl ⟨rfl, rfl, rfl, rfl, rfl⟩ rfl rfl rfl rfl rfl (by kernel_rfl) Try.func7 (by kernel_rfl)
    (of_decide_eq_true (by kernel_rfl)) (by unfold Func.isWrapper; first | (rw [if_pos (by decide +kernel)]; kernel_rfl) | (rw [if_neg (by decide +kernel)]; exact ⟨rfl, rfl⟩))
    (fun os started H enc _ F => by rw [OpenClaim.pre_eq_preRow]; exact lifted os started H enc F)

/-- THE STATEMENT -/
theorem proved : Rows.FnExactValueOfSaid :=
  over
#print axioms proved
end Go.Proofs.Ytmbfekfpahlmfaa.fnExactValueOf
