/- For every slice of strings and every string, FnExactJoinStrings returns true and leaves its arguments as they were: JoinStrings answers as its model. No condition. -/
import Derived.Test.YtohgfphbgpjamaaRows
import Derived.WalkKit
import Derived.ProofKit
import Derived.OpenShut
import Derived.ShutString
import Derived.ChangeOld
import Derived.Below
import Derived.Deep.DeepHandedRow
import Derived.Deep.DeepWitnessRowRef
import Derived.LaidMore
import Derived.SliceStrings
import Derived.Test.YtohgfphbgpjamaaJoin
import Derived.Test.YtohgfphbgpjamaaHelpStr
import Derived.Outline
namespace Go.Proofs.Ytohgfphbgpjamaa.fnExactJoinStrings
open Go.ChangeShapes Go.WideShapes Go.ChangeAt Go.RowKit
open Go.ChangeMaps (open_string shut_string)
open Go.Proofs.Ytohgfphbgpjamaa.Rowed Go.Proofs.Ytohgfphbgpjamaa.PlainJoin Go.Proofs.Ytohgfphbgpjamaa.Join Go.Proofs.Ytohgfphbgpjamaa.HelpStr
set_option linter.unusedVariables false

theorem own : ownKnob Try.prog.godebug = none := by kernel_rfl
theorem laidOut : laidOutB Try.prog = true := by kernel_rfl

/-- A slice of strings that came in: nil, or a row of 'cap' cells with the strings 'zs'. -/
def IsStrs (w : World) (a : Option Addr) (len cap : Nat) (zs : List ByteArray) : Prop :=
  (a = none ∧ len = 0 ∧ cap = 0 ∧ zs = []) ∨
  ∃ x, a = some x ∧ len ≤ cap ∧ cap ≤ maxLen ∧ zs.length = cap ∧ (∀ i, i < zs.length → w.cell? (x.add i) = some (.string (zs.getD i ByteArray.empty))) ∧ ∀ s ∈ zs, s.size ≤ maxLen

theorem strs_of {w : World} {a : Option Addr} {len cap : Nat} {zs : List ByteArray} (h : IsStrs w a len cap zs) :
    Strs w a len (zs.take len) ∧ len ≤ maxLen ∧ ∀ s ∈ zs.take len, s.size ≤ maxLen := by
  rcases h with ⟨rfl, rfl, rfl, rfl⟩ | ⟨x, rfl, hl, hm, hz, hc, hw⟩
  · exact ⟨Cells.nil_ _ _ _, by unfold maxLen; omega, by intro s hs; simp at hs⟩
  · refine ⟨⟨by rw [List.length_map, List.length_take]; omega, fun _ => ⟨x, rfl, fun j u hu => ?_⟩⟩, by omega, fun s hs => hw s (List.mem_of_mem_take hs)⟩
    rw [List.getElem?_map] at hu
    cases hj : (zs.take len)[j]? with
    | none => rw [hj] at hu; simp at hu
    | some y =>
      rw [hj] at hu
      obtain rfl : Value.string y = u := by simpa using hu
      have hjl := (List.getElem?_eq_some_iff.1 hj).1
      rw [List.length_take] at hjl
      rw [List.getElem?_take_of_lt (by omega)] at hj
      rw [hc j (by omega), List.getD, hj]; rfl
theorem ext_of {a b : ByteArray} (h : a.data.toList = b.data.toList) : a = b := by
  obtain ⟨⟨x⟩⟩ := a
  obtain ⟨⟨y⟩⟩ := b
  simp at h
  rw [h]

/-- THE WALK -/
theorem walk (a0 : Option Addr) (len0 cap0 : Nat) (z0 : List ByteArray) (a1 : ByteArray) (w : World) (w0 : IsStrs w a0 len0 cap0 z0) (w1 : a1.size ≤ maxLen) (hL : laidMetH Try.prog Rows.fnExactJoinStringsRow.laid w) (hsh : w.ShapedOpen Try.prog) :
    Calls Try.prog 5 #[.slice a0 len0 cap0, .string a1] w fun e w' => e = .returned (.bool true) ∧ Below w.heap.size w w' := by
  obtain ⟨hS0, hlm, hzm⟩ := strs_of w0
  obtain ⟨l, hl⟩ : ∃ l, l = z0.take len0 := ⟨_, rfl⟩
  rw [← hl] at hS0 hzm
  clear hL hsh w0 hl
  obtain rfl : l.length = len0 := hS0.len
  have HZ := Lib.hid hzm
  unfold maxLen at w1 hlm
  clear hzm
  by_cases h1 : 1048576 < a1.size
  · clear hS0
    go_enter Try.func5, Try.ntmps5
    go_wp2
    go_ret
    exact ⟨rfl, Below.refl _ _⟩
  · by_cases h2 : (1048576 : Int) - (l.length : Int) - (nbytes l : Int) < 0
    · have HS := Lib.hid hS0
      have H2 := Lib.hid h2
      clear hS0 h2
      go_enter Try.func5, Try.ntmps5
      go_wp2_with (go_at_call 21; refine (sz_neg a0 _ cap0 l 1048576 _ HS.out (by omega) (by omega) hlm HZ H2.out).mono ?_; rintro e w' ⟨rfl, rfl⟩)
      go_ret
      exact ⟨rfl, Below.refl _ _⟩
    · have hn : l.length ≤ 1048576 := by omega
      have hz : Hid (∀ x ∈ l, x.size ≤ 1048576) := Lib.hid (fun x hx => by have := size_le_bytes l x hx; omega)
      have hm : a1.size ≤ 1048576 := by omega
      have HS := Lib.hid hS0
      have H2 := Lib.hid (show 0 ≤ (1048576 : Int) - (l.length : Int) - (nbytes l : Int) by omega)
      clear hS0 h2
      go_enter Try.func5, Try.ntmps5
      go_wp2_with (go_at_call 21; refine (sz_pos a0 _ cap0 l 1048576 _ HS.out (by omega) (by omega) hlm HZ H2.out).mono ?_; rintro e w' ⟨⟨r, hr1, hr2, rfl⟩, rfl⟩)
      go_at_call 22
      refine (to_any a0 cap0 l _ HS.out hn).mono ?_
      rintro e w1 ⟨g1, rfl, hO1, hB1⟩
      have O1 := Lib.hid (own_of hO1)
      clear hO1
      go_wp2_with fail
      go_at_call 13
      refine (specJoin_any g1 _ l a1 w1 O1.out hn hz.out hm).mono ?_
      rintro e w2 ⟨t, b, rfl, hJ, hB2⟩
      have B2 := Lib.hid (Below.step hB1 hB2)
      clear hB1 hB2
      go_wp2_with fail
      go_at_call 22
      refine (to_any a0 cap0 l w2 (HS.out.below B2.out) hn).mono ?_
      rintro e w3 ⟨g3, rfl, hO3, hB3⟩
      have B3 := Lib.hid (Below.step B2.out hB3)
      have S3 := Lib.hid (strs_own hO3)
      have O3 := Lib.hid (own_of hO3)
      clear hO3 hB3
      go_wp2_with fail
      go_at_call 12
      refine (implJoin_any g3 _ l a1 w3 (Nat.le_refl _) O3.out hn hz.out hm).mono ?_
      rintro e w4 ⟨t', b', rfl, hJ', hB4⟩
      obtain ⟨ht, rfl⟩ := hJ.uniq hJ'
      obtain rfl := ext_of ht
      have B4 := Lib.hid (Below.step B3.out hB4)
      have S4 := Lib.hid (S3.out.below hB4)
      clear hJ hJ' ht hB4
      go_wp2_with fail
      go_at_call 22
      refine (to_any a0 cap0 l w4 (HS.out.below B4.out) hn).mono ?_
      rintro e w5 ⟨g5, rfl, hO5, hB5⟩
      have B5 := Lib.hid (Below.step B4.out hB5)
      have S5 := Lib.hid (strs_own hO5)
      have T5 := Lib.hid (S4.out.below hB5)
      clear hO5 hB5
      go_wp2_with fail
      go_at_call 18
      refine (eq_same _ _ _ _ _ l w5 T5.out S5.out (by omega)).mono ?_
      rintro e w6 ⟨rfl, hD⟩
      go_wp2
      go_ret
      exact ⟨rfl, Below.step B5.out hD.below⟩

theorem laid_met (os : Os) : laidMetH Try.prog Rows.fnExactJoinStringsRow.laid ((World.holding Try.prog os ⟨#[], #[], []⟩).forCall (fun _ _ => 0) ⟨#[], #[.slice none 0 0, .string ByteArray.empty], []⟩).memory :=
  laidMetH_of_parts3 (fuel := 8) (laidMet_of_run' 8 (by kernel_rfl) (by kernel_rfl)) (by kernel_rfl) (by kernel_rfl)
theorem reads (os : Os) {H : Type} (enc : TypeId × Value → H) : ∃ places, DataW.whole enc Try.prog ((World.holding Try.prog os ⟨#[], #[], []⟩).forCall (fun _ _ => 0) ⟨#[], #[.slice none 0 0, .string ByteArray.empty], []⟩).memory Try.f5.params.toList Rows.fnExactJoinStringsSpec.vars false (#[.slice none 0 0, .string ByteArray.empty] : Array Value).toList 8 = some ([.nil, .lit (.string [])], [], places) :=
  ⟨[], by kernel_rfl⟩

set_option maxRecDepth 100000 in
theorem lifted (os : Os) (started : os.Started) (H : Type) (enc : TypeId × Value → H) (F : Stop.Interp) :
    ReturnsInHanded {} Try.checked os 5 .any ((OpenSpec.ofChange Rows.fnExactJoinStringsSpec).preRow enc Try.prog Try.f5 Rows.fnExactJoinStringsRow.domain false Rows.fnExactJoinStringsRow.laid) (((OpenSpec.ofChange Rows.fnExactJoinStringsSpec).at F).post enc Try.prog Try.f5 false true false false) := by
  obtain ⟨places, hx⟩ := reads os enc
  refine returnsInHanded_of_row (C := Try.checked) (s := OpenSpec.ofChange Rows.fnExactJoinStringsSpec) own started (by kernel_rfl) Try.func5
    (witness_row_atRef (enc := enc) (C := Try.checked) false (World.holding Try.prog os ⟨#[], #[], []⟩) #[.slice none 0 0, .string ByteArray.empty] rfl (by kernel_rfl) (by kernel_rfl) (by kernel_rfl)
      (OpenSpec.preRow_of_cond 8 hx (by kernel_rfl) (fun k hk => by cases hk) (by kernel_rfl) (laid_met os))) ?_
  intro W base args ds gs before hval0 hW hcnd hcond hsz hL hsh _
  have hval : ∀ (j : Nat) t v, Try.f5.params[j]? = some t → args[j]? = some v → Value.okWide Try.prog W .any base t v := hval0
  have hW' := hW
  obtain ⟨p, q, hA0, hV, rfl, hfz, hnd⟩ := hW
  have hA : DataW.TrodAll enc Try.prog W 0 (fun _ => true) true Try.f5.params.toList args.toList ds p := hA0
  rw [Try.params5] at hA hval
  obtain ⟨v0, vs0, d0, ds0, p0, q0, hargs, rfl, rfl, h0, r0⟩ := trodAll_cons hA
  obtain ⟨v1, vs1, d1, ds1, p1, q1, rfl, rfl, rfl, h1, r1⟩ := trodAll_cons r0
  obtain ⟨rfl, rfl, rfl⟩ := trodAll_nil r1
  obtain rfl : args = #[v0, v1] := by cases args; simp_all
  obtain ⟨rfl, rfl⟩ := trodVars_none hV
  obtain ⟨a0, len0, cap0, rfl⟩ := okWide_slice Try.underlying26 (hval 0 26 v0 rfl rfl)
  have k0 := h0
  have lt0 : ∀ x ∈ p0, x.block < W.heap.size := by obtain ⟨m, hm⟩ := k0; exact DataW.trod_lt m _ _ _ hm
  obtain ⟨z0, w0⟩ : ∃ zs, IsStrs W a0 len0 cap0 zs := by
    obtain ⟨fuel, hf⟩ := h0
    rcases open_strings Try.underlying26 Try.underlying9 (by kernel_rfl) hf with ⟨hcs, _⟩ | ⟨x, l, c, zs, hcs, hxb, hl, hm, hz, hdat, hcell, hwz⟩
    · simp [Value.cells] at hcs
      obtain ⟨rfl, rfl, rfl⟩ := hcs
      exact ⟨[], .inl ⟨rfl, rfl, rfl, rfl⟩⟩
    · simp [Value.cells] at hcs
      obtain ⟨rfl, rfl, rfl⟩ := hcs
      have hz' : zs.length = cap0 := by simpa using hz
      exact ⟨zs, .inr ⟨_, rfl, hl, hm, hz', hcell, hwz⟩⟩
  obtain ⟨a1, rfl, rfl, rfl, w1⟩ := open_string Try.underlying9 (hval 1 9 v1 rfl rfl) h1
  clear hA0 hval0
  refine (walk a0 len0 cap0 z0 a1 W w0 w1 hL hsh).mono fun e W' ⟨he, bel⟩ => ?_
  subst he
  exact ⟨_, rfl, _, _, _, [], _, [], hW', trodAll_mk1 (shut_bool Try.underlying4 _), (trodAll_cons_mk (Below.trod laidOut (by kernel_rfl) (of_decide_eq_true (by kernel_rfl)) k0 bel lt0) (trodAll_cons_mk (shut_string Try.underlying9 w1) trodAll_mk0)), rfl, bel.frame _, fun h => by cases h⟩

theorem over : Rows.fnExactJoinStringsRow.holds Try.pinned (OpenSpec.ofChange Rows.fnExactJoinStringsSpec) :=
  OpenClaim.holds_of_cond 5 Try.f5 rfl rfl rfl rfl rfl rfl rfl ⟨rfl, rfl, rfl, rfl, rfl⟩ rfl rfl rfl rfl rfl (by kernel_rfl) Try.func5 (by kernel_rfl)
    (of_decide_eq_true (by kernel_rfl)) (by unfold Func.isWrapper; first | (rw [if_pos (by decide +kernel)]; kernel_rfl) | (rw [if_neg (by decide +kernel)]; exact ⟨rfl, rfl⟩))
    (fun os started H enc _ F => by rw [OpenClaim.pre_eq_preRow]; exact lifted os started H enc F)

/-- THE STATEMENT -/
theorem proved : Rows.FnExactJoinStringsSaid :=
  over
#print axioms proved
end Go.Proofs.Ytohgfphbgpjamaa.fnExactJoinStrings
