/- KindText answers as its reference at every argument, and writes into none of them. -/
import Derived.Test.YtekacbjnpeglhaaDoorRows
import Derived.Test.YtekacbjnpeglhaaDoorCards
import Derived.Test.YtekacbjnpeglhaaDoorTie
import Derived.WalkKit
import Derived.ProofKit
import Derived.OpenShut
import Derived.ShutString
import Derived.ChangeOld
import Derived.Below
import Derived.Deep.DeepHandedRow
import Derived.Deep.DeepWitnessRowRef
import Derived.LaidMore
import Derived.Outline
import Derived.Test.YtekacbjnpeglhaaDoorFnExactKindTextP1
import Derived.Test.YtekacbjnpeglhaaDoorFnExactKindTextP2
import Derived.Test.YtekacbjnpeglhaaDoorFnExactKindTextP3
namespace Go.Proofs.YtekacbjnpeglhaaDoor.fnExactKindText
open Go.ChangeShapes Go.WideShapes Go.ChangeAt Go.RowKit
open Go.ChangeMaps (open_string shut_string)
open Go.RowKit
open Go.Proofs.YtekacbjnpeglhaaDoor.Rowed Go.Proofs.YtekacbjnpeglhaaDoor.Turn Go.Proofs.YtekacbjnpeglhaaDoor.GoM Go.Proofs.YtekacbjnpeglhaaDoor.QL6Text
open Go.Proofs.YtekacbjnpeglhaaDoor.OBan Go.Proofs.YtekacbjnpeglhaaDoor.PBan
set_option linter.unusedVariables false

theorem own : ownKnob Tryd.prog.godebug = none := by kernel_rfl
theorem laidOut : laidOutB Tryd.prog = true := by kernel_rfl

/-- A slice of integers that came in: nil, or a row of 'cap' cells with the numbers 'zs'. -/
def IsRow (k : IntKind) (w : World) (a : Option Addr) (len cap : Nat) (zs : List Int) : Prop :=
  (a = none ∧ len = 0 ∧ cap = 0 ∧ zs = []) ∨
  ∃ x, a = some x ∧ len ≤ cap ∧ cap ≤ maxLen ∧ zs.length = cap ∧ (∀ i, i < zs.length → w.cell? (x.add i) = some (.int k (zs.getD i 0))) ∧ ∀ n ∈ zs, (Lit.int k n).wf = true

theorem row_of {w : World} {a : Option Addr} {len cap : Nat} {zs : List Int} (h : IsRow .i64 w a len cap zs) : ∃ l : List Int, Cells w 1 a len (HelpInt.iv l) ∧ l.length = len ∧ len ≤ maxLen ∧ ∀ n ∈ l, (Lit.int .i64 n).wf = true := by
  rcases h with ⟨rfl, rfl, rfl, rfl⟩ | ⟨x, rfl, hl, hm, hz, hc, hw⟩
  · exact ⟨[], Cells.nil_ _ _ _, rfl, by unfold maxLen; omega, by intro n hn; simp at hn⟩
  · refine ⟨zs.take len, ⟨by rw [HelpInt.iv_len, List.length_take]; omega, fun _ => ⟨x, rfl, fun j u hu => ?_⟩⟩, by rw [List.length_take]; omega, by omega, fun n hn => hw n (List.mem_of_mem_take hn)⟩
    rw [HelpInt.iv_at] at hu
    have hj : j < (zs.take len).length := by
      cases hq : (zs.take len)[j]? with
      | none => rw [hq] at hu; simp at hu
      | some q => exact (List.getElem?_eq_some_iff.1 hq).1
    rw [List.length_take] at hj
    rw [List.getElem?_take, if_pos (by omega), List.getElem?_eq_getElem (by omega)] at hu
    obtain rfl : Value.int .i64 zs[j] = u := by simpa using hu
    rw [hc j (by omega), List.getD_eq_getElem?_getD, List.getElem?_eq_getElem (by omega)]
    rfl

/-- THE WALK -/
theorem walk (a0_0 : Option Addr) (len0_0 cap0_0 : Nat) (z0_0 : List Int) (a0_1 : Option Addr) (len0_1 cap0_1 : Nat) (z0_1 : List Ban) (a1 : Option Addr) (len1 cap1 : Nat) (z1 : List Int) (w : World) (w0_0 : Cells w 1 a0_0 len0_0 (z0_0.map (Value.int .i64)) ∧ z0_0.length = len0_0 ∧ len0_0 ≤ maxLen ∧ ∀ n ∈ z0_0, (Lit.int .i64 n).wf = true) (w0_1 : OBan.Came w a0_1 len0_1 cap0_1 z0_1) (w1 : IsRow .i64 w a1 len1 cap1 z1) (hL : laidMetH Tryd.prog Rows.fnExactKindTextRow.laid w) (hsh : w.ShapedOpen Tryd.prog) :
    Calls Tryd.prog 3 #[.agg #[.slice a0_0 len0_0 cap0_0, .slice a0_1 len0_1 cap0_1], .slice a1 len1 cap1] w fun e w' => e = .returned (.bool true) ∧ Below w.heap.size w w' := by
  obtain ⟨hc0_0, hn0_0, hl0_0, hf0_0⟩ := w0_0
  obtain rfl := hn0_0
  have HC0_0 := Lib.hid hc0_0
  have HF0_0 := Lib.hid hf0_0
  obtain ⟨y0_0, rfl⟩ : ∃ y, y = z0_0 := ⟨_, rfl⟩
  clear hc0_0 hf0_0
  unfold maxLen at hl0_0
  have HC0_1 := Lib.hid w0_1.cells
  have hl0_1 := w0_1.small
  have HF0_1 := Lib.hid w0_1.fits
  obtain rfl := w0_1.len
  obtain ⟨y0_1, rfl⟩ : ∃ y, y = z0_1 := ⟨_, rfl⟩
  clear w0_1
  unfold maxLen at hl0_1
  obtain ⟨y1, hc1, rfl, hl1, hf1⟩ := row_of w1
  have HC1 := Lib.hid hc1
  have HF1 := Lib.hid hf1
  clear hc1 hf1 w1
  unfold maxLen at hl1
  have hT : Hid (Go.Proofs.YtekacbjnpeglhaaDoor.Tab.Tab w) := Lib.hid (Go.Proofs.YtekacbjnpeglhaaDoor.DoorLaid.pow10 hL (by kernel_rfl))
  clear hL hsh
  exact Go.Proofs.YtekacbjnpeglhaaDoor.GlFnExactKindText.C 1048577 y0_0 y0_1 y1 a0_0 cap0_0 a0_1 cap0_1 a1 cap1 _ hT HC0_0 (Lib.hid (by omega)) HC0_1 (Lib.hid (by omega)) HC1 (Lib.hid (by omega)) (Lib.hid (law_text 1048577 (by omega) y0_0 y0_1 y1 (by omega) (by omega) (by omega)))

theorem laid_met (os : Os) : laidMetH Tryd.prog Rows.fnExactKindTextRow.laid ((World.doorLaid Tryd.prog 400 os).forCall (fun _ _ => 0) ⟨#[], #[.agg #[.slice none 0 0, .slice none 0 0], .slice none 0 0], []⟩).memory :=
  laidMetH_of_parts3 (fuel := 8) (laidMet_of_run' 8 (by kernel_rfl) (by kernel_rfl)) (by kernel_rfl) (by kernel_rfl)
theorem reads (os : Os) {H : Type} (enc : TypeId × Value → H) : ∃ places, DataW.whole enc Tryd.prog ((World.doorLaid Tryd.prog 400 os).forCall (fun _ _ => 0) ⟨#[], #[.agg #[.slice none 0 0, .slice none 0 0], .slice none 0 0], []⟩).memory Tryd.f3.params.toList Rows.fnExactKindTextSpec.vars false (#[.agg #[.slice none 0 0, .slice none 0 0], .slice none 0 0] : Array Value).toList 8 = some ([.agg [.nil, .nil], .nil], [], places) :=
  ⟨[], by kernel_rfl⟩

set_option maxRecDepth 100000 in
theorem lifted (os : Os) (started : os.Started) (H : Type) (enc : TypeId × Value → H) (F : Stop.Interp) :
    ReturnsInHanded {} Tryd.checked os 3 .any ((OpenSpec.ofChange Rows.fnExactKindTextSpec).preRow enc Tryd.prog Tryd.f3 Rows.fnExactKindTextRow.domain false Rows.fnExactKindTextRow.laid) (((OpenSpec.ofChange Rows.fnExactKindTextSpec).at F).post enc Tryd.prog Tryd.f3 false true false false) := by
  obtain ⟨places, hx⟩ := reads os enc
  refine returnsInHanded_of_row (C := Tryd.checked) (s := OpenSpec.ofChange Rows.fnExactKindTextSpec) own started (by kernel_rfl) Tryd.func3
    (witness_row_atRef (enc := enc) (C := Tryd.checked) false (World.doorLaid Tryd.prog 400 os) #[.agg #[.slice none 0 0, .slice none 0 0], .slice none 0 0] rfl (by kernel_rfl) (by kernel_rfl) (by kernel_rfl)
      (OpenSpec.preRow_of_cond 8 hx (by kernel_rfl) (fun k hk => by cases hk) (by kernel_rfl) (laid_met os))) ?_
  intro W base args ds gs before hval0 hW hcnd hcond hsz hL hsh _
  have hval : ∀ (j : Nat) t v, Tryd.f3.params[j]? = some t → args[j]? = some v → Value.okWide Tryd.prog W .any base t v := hval0
  have hW' := hW
  obtain ⟨p, q, hA0, hV, rfl, hfz, hnd⟩ := hW
  have hA : DataW.TrodAll enc Tryd.prog W 0 (fun _ => true) true Tryd.f3.params.toList args.toList ds p := hA0
  rw [Tryd.params3] at hA hval
  obtain ⟨v0, vs0, d0, ds0, p0, q0, hargs, rfl, rfl, h0, r0⟩ := trodAll_cons hA
  obtain ⟨v1, vs1, d1, ds1, p1, q1, rfl, rfl, rfl, h1, r1⟩ := trodAll_cons r0
  obtain ⟨rfl, rfl, rfl⟩ := trodAll_nil r1
  obtain rfl : args = #[v0, v1] := by cases args; simp_all
  obtain ⟨rfl, rfl⟩ := trodVars_none hV
  obtain ⟨cs0, n0, x0, rfl, ht0⟩ := OpenAny.agg_any Tryd.underlying25 (hval 0 25 v0 rfl rfl) h0
  have k0 := h0
  have lt0 : ∀ x ∈ p0, x.block < W.heap.size := by obtain ⟨m, hm⟩ := k0; exact DataW.trod_lt m _ _ _ hm
  obtain ⟨hl0, hf0⟩ := OpenAny.read_fields Tryd.underlying25 (by kernel_rfl) (by kernel_rfl) ht0
  rw [show Tryd.prog.cellsOf 25 = 2 by kernel_rfl] at hl0
  obtain ⟨cs0⟩ := cs0
  obtain ⟨u0_0, u0_1, rfl⟩ := OpenNest.len2 hl0
  obtain ⟨u_, n_0_0, y_0_0, eu_, t_0_0⟩ := hf0 0 _ rfl
  obtain rfl : u0_0 = u_ := by simpa using eu_
  obtain ⟨a0_0, len0_0, cap0_0, z0_0, rfl, w0_0⟩ := OpenNest.one_ints Tryd.underlying22 Tryd.underlying3 (by kernel_rfl) t_0_0
  obtain ⟨u_, n_0_1, y_0_1, eu_, t_0_1⟩ := hf0 1 _ rfl
  obtain rfl : u0_1 = u_ := by simpa using eu_
  obtain ⟨a0_1, len0_1, cap0_1, z0_1, rfl, w0_1⟩ := OBan.open_field t_0_1
  obtain ⟨a1, len1, cap1, rfl⟩ := okWide_slice Tryd.underlying22 (hval 1 22 v1 rfl rfl)
  have k1 := h1
  have lt1 : ∀ x ∈ p1, x.block < W.heap.size := by obtain ⟨m, hm⟩ := k1; exact DataW.trod_lt m _ _ _ hm
  obtain ⟨z1, w1⟩ : ∃ zs, IsRow .i64 W a1 len1 cap1 zs := by
    obtain ⟨fuel, hf⟩ := h1
    rcases open_ints Tryd.underlying22 Tryd.underlying3 (by kernel_rfl) hf with ⟨hcs, _⟩ | ⟨x, l, c, zs, hcs, hxb, hl, hm, hz, hdat, hcell, hwz⟩
    · simp [Value.cells] at hcs
      obtain ⟨rfl, rfl, rfl⟩ := hcs
      exact ⟨[], .inl ⟨rfl, rfl, rfl, rfl⟩⟩
    · simp [Value.cells] at hcs
      obtain ⟨rfl, rfl, rfl⟩ := hcs
      have hz' : zs.length = cap1 := by simpa using hz
      exact ⟨zs, .inr ⟨_, rfl, hl, hm, hz', hcell, hwz⟩⟩
  clear hA0 hval0
  refine (walk a0_0 len0_0 cap0_0 z0_0 a0_1 len0_1 cap0_1 z0_1 a1 len1 cap1 z1 W w0_0 w0_1 w1 hL hsh).mono fun e W' ⟨he, bel⟩ => ?_
  subst he
  exact ⟨_, rfl, _, _, _, [], _, [], hW', trodAll_mk1 (shut_bool Tryd.underlying4 _), (trodAll_cons_mk (Below.trod laidOut (by kernel_rfl) (of_decide_eq_true (by kernel_rfl)) k0 bel lt0) (trodAll_cons_mk (Below.trod laidOut (by kernel_rfl) (of_decide_eq_true (by kernel_rfl)) k1 bel lt1) trodAll_mk0)), rfl, bel.frame _, fun h => by cases h⟩

theorem named : Tryd.pinned.checked.prog.funcNamed Rows.fnExactKindTextRow.func = some 3 := by kernel_rfl
theorem closed : joinedFacts Tryd.pinned.checked.prog 3 Tryd.f3 (OpenSpec.ofChange Rows.fnExactKindTextSpec).bare Rows.fnExactKindTextRow = true := by kernel_rfl

theorem over : Rows.fnExactKindTextRow.holds Tryd.pinned (OpenSpec.ofChange Rows.fnExactKindTextSpec) :=
  OpenClaim.holds_of_cond 3 Tryd.f3 rfl rfl rfl rfl rfl rfl rfl ⟨rfl, rfl, rfl, rfl, rfl⟩ rfl rfl rfl rfl rfl named Tryd.func3 closed
    (of_decide_eq_true (by kernel_rfl)) (by unfold Func.isWrapper; first | (rw [if_pos (by decide +kernel)]; kernel_rfl) | (rw [if_neg (by decide +kernel)]; exact ⟨rfl, rfl⟩))
    (fun os started H enc _ F => by rw [OpenClaim.pre_eq_preRow]; exact lifted os started H enc F)

/-- No parameter wants a stand-in; the program's own looks are as the card has them. -/
theorem plain (f : FuncId) (fn : Func) (hf : Tryd.pinned.checked.prog.funcNamed "loop.example/g01062/laws.FnExactKindText" = some f) (hfn : Tryd.pinned.checked.prog.funcs[f]? = some fn) :
    false = Tryd.pinned.checked.prog.looks [] ∧ ∀ (j : Nat) t, fn.params[j]? = some t → Tryd.pinned.checked.prog.wantsStandIn t = false := by
  obtain rfl : f = 3 := Option.some.inj ((show Tryd.prog.funcNamed "loop.example/g01062/laws.FnExactKindText" = some 3 by kernel_rfl).symm.trans hf) |>.symm
  obtain rfl : fn = Tryd.f3 := (Option.some.inj (Tryd.func3.symm.trans hfn)).symm
  refine ⟨by kernel_rfl, fun j t ht => ?_⟩
  rw [Tryd.params3] at ht
  have hm : t ∈ [25, 22] := by simpa using Array.mem_of_getElem? ht
  have hall : ([25, 22].all fun u => !Tryd.prog.wantsStandIn u) = true := by kernel_rfl
  exact (show Tryd.prog.wantsStandIn t = false by simpa using List.all_eq_true.1 hall t hm)

/-- THE STATEMENT: THE CARD -/
theorem proved : Rows.FnExactKindTextCardSaid :=
  Claim7.holds_tied_plain_at .later [] _ _ _ _ over (fun _ h => by cases h) (by kernel_rfl) (fun _ h => by cases h) fnExactKindText_row_tie rfl ⟨rfl, rfl⟩ (by kernel_rfl) rfl plain (by kernel_rfl)
#print axioms proved
end Go.Proofs.YtekacbjnpeglhaaDoor.fnExactKindText
