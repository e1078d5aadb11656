/- The texts on which the proof of FnExactKindText stands, one behind the other (3 of 3). No condition of their own. -/
import Derived.Test.YtekacbjnpeglhaaDoorFnExactKindTextP2
import Derived.Test.YtekacbjnpeglhaaDoorFnExactKindTextP1
import Derived.Lib.ItoaLen
import Derived.Lib.AtoiTie
import Derived.Lib.ItoaMem
import Derived.IntWalk
import Derived.SliceStrings
import Derived.ChangeSlices
/- Chapter 6: tables of kinds: the plain functions of the program and of the reference agree, and the laws answer true. (Q6Tab) No condition but those of each theorem. -/
namespace Go.Proofs.YtekacbjnpeglhaaDoor.Q6Tab
set_option linter.unusedVariables false
set_option linter.unusedSimpArgs false
open Go.RowKit
open Go.Proofs.YtekacbjnpeglhaaDoor.GoP Go.Proofs.YtekacbjnpeglhaaDoor.PlainStamp Go.Proofs.YtekacbjnpeglhaaDoor.QBase Go.Proofs.YtekacbjnpeglhaaDoor.Q6Ban Go.Proofs.YtekacbjnpeglhaaDoor.Q6Hist Go.Proofs.YtekacbjnpeglhaaDoor.QLoop Go.Proofs.YtekacbjnpeglhaaDoor.QAll Go.Proofs.YtekacbjnpeglhaaDoor.PBan

def upB (s : List Int) (l : List Ban) (k : Nat) : Bool := upAt (okB s) code l k
def okT (s : List Int) (l : List Ban) : Bool := inB s.length 1 5 && decide (l.length ≤ 20) && okS s && allN l.length (upB s l)
theorem okT_of {s : List Int} {l : List Ban} (h : okT s l = true) : 1 ≤ s.length ∧ s.length ≤ 5 ∧ l.length ≤ 20 ∧ okS s = true ∧ ∀ b ∈ l, okB s b = true := by
  unfold okT at h
  simp only [Bool.and_eq_true, decide_eq_true_eq] at h
  have h1 := inB_of h.1.1.1
  refine ⟨by omega, by omega, h.1.1.2, h.1.2, fun b hb => ?_⟩
  obtain ⟨k, hk⟩ := List.getElem?_of_mem hb
  have := allN_iff.1 h.2 k (List.getElem?_eq_some_iff.1 hk).1
  unfold upB upAt at this
  rw [hk] at this
  simp only [Bool.and_eq_true] at this
  exact this.1
theorem hist_ok {s : List Int} {l : List Ban} {k : Nat} (hu : ∀ i, i < k → upB s l i = true) (hk : 0 < k) {r : Ban} (hr : l[k - 1]? = some r) : okB s r = true := by
  have := hu (k - 1) (by omega)
  unfold upB upAt at this
  rw [hr] at this
  simp only [Bool.and_eq_true] at this
  exact this.1
theorem isTable_eq (s : List Int) (l : List Ban) (hs : s.length ≤ 9223372036854775807) (hl : l.length ≤ 9223372036854775807) : GiIsKindTable.P s l = some (okT s l) := by
  simp only [GiIsKindTable.P, within_eq, Option.bind_some, letK, joinK, appK, iteK_if, okT]
  cases h1 : inB s.length 1 5 with
  | false => simp
  | true =>
    have hs5 := inB_of h1
    by_cases h2 : l.length ≤ 20
    · simp only [Bool.not_true, Bool.false_eq_true, if_false, show ¬ (20 < (l.length : Int)) by omega, decide_false, h2, decide_true, Bool.true_and]
      rw [all_cnt (p := fun i => match s[i]? with | some z => inB z 1 5 | none => true) (no := false)]
      · show (if okS s = true then _ else _) = _
        cases h3 : okS s with
        | false => simp
        | true =>
          simp only [if_true, Bool.true_and, GiIsKindTable.e0]
          rw [all_cntH (p := upB s l) (no := false)]
          · cases allN l.length (upB s l) <;> simp [GiIsKindTable.e1]
          · intro k nx hk hu
            obtain ⟨b, hb, hi⟩ := at_lt (l := l) (k := k) hk
            simp only [GiIsKindTable.l1, hi, Option.bind_some, unBan, isBan_eq s h3 (by omega), letK, joinK, appK, iteK_if]
            cases hok : okB s b with
            | false => exact ⟨fun _ => by simp, fun h => by rw [show upB s l k = false from upAt_bad hb hok] at h; exact absurd h (by simp)⟩
            | true =>
              by_cases hk0 : k = 0
              · subst hk0
                rw [show upB s l 0 = true from upAt_first hb hok]
                exact ⟨fun h => absurd h (by simp), fun _ => by simp⟩
              · obtain ⟨r, hr, _⟩ := at_lt (l := l) (k := k - 1) (by omega)
                have hrk := hist_ok hu (by omega) hr
                obtain ⟨c, hc, c1, c2, c3⟩ := compare_eq h3 (by omega) hrk hok
                rw [show upB s l k = decide (code r < code b) from upAt_next hb hr (by omega) hok]
                have hk1 : (0 : Int) < (k : Int) := by omega
                simp only [hk1, decide_true, if_true, Bool.not_true, Bool.false_eq_true, if_false]
                rw [idx_pred (by omega) (by omega) hr]
                simp only [Option.bind_some, hc]
                by_cases hlt : code r < code b
                · simp [hlt, show ¬ 0 ≤ c by omega]
                · simp [hlt, show 0 ≤ c by omega]
      · intro k nx hk
        obtain ⟨z, hz, hi⟩ := at_lt (l := s) (k := k) hk
        simp only [GiIsKindTable.l0, hi, Option.bind_some, within_eq, letK, appK, iteK_if, hz]
        exact ⟨fun h => by simp [h], fun h => by simp [h]⟩
    · simp [h2, show (20 < (l.length : Int)) by omega]
theorem l6Good_eq (fuel : Nat) (hf : 21 ≤ fuel) (s : List Int) (l : List Ban) (hs : s.length ≤ 9223372036854775807) (hl : l.length ≤ 9223372036854775807) : GsL6Good.P fuel s l = some (okT s l) := by
  simp only [GsL6Good.P, l1In_eq, Option.bind_some, letK, joinK, appK, iteK_if, okT]
  cases h1 : inB s.length 1 5 with
  | false => simp
  | true =>
    have hs5 := inB_of h1
    by_cases h2 : l.length ≤ 20
    · simp only [Bool.not_true, Bool.false_eq_true, if_false, show ¬ (20 < (l.length : Int)) by omega, decide_false, h2, decide_true, Bool.true_and]
      rw [all_lp (n := s.length) (p := fun i => match s[i]? with | some z => inB z 1 5 | none => true) (no := false)]
      · show (if okS s = true then _ else _) = _
        cases h3 : okS s with
        | false => simp
        | true =>
          simp only [if_true, Bool.true_and, GsL6Good.e0, letK]
          rw [all_lpH (n := l.length) (p := upB s l) (no := false)]
          · cases allN l.length (upB s l) <;> simp [GsL6Good.e1, letK]
          · intro k nx hk hu
            obtain ⟨b, hb, hi⟩ := at_lt (l := l) (k := k) hk
            have hlt0 : (k : Int) < (l.length : Int) := by omega
            simp only [GsL6Good.l1, letK, hlt0, decide_true, hi, Option.bind_some, unBan, l6Ban_eq s h3 (by omega), joinK, appK, iteK_if, if_true]
            rw [next_i (by omega)]
            cases hok : okB s b with
            | false => exact ⟨fun _ => by simp, fun h => by rw [show upB s l k = false from upAt_bad hb hok] at h; exact absurd h (by simp)⟩
            | true =>
              by_cases hk0 : k = 0
              · subst hk0
                rw [show upB s l 0 = true from upAt_first hb hok]
                exact ⟨fun h => absurd h (by simp), fun _ => by simp⟩
              · obtain ⟨r, hr, _⟩ := at_lt (l := l) (k := k - 1) (by omega)
                have hrk := hist_ok hu (by omega) hr
                have e1 := l6Code_eq h3 (by omega) hrk
                have e2 := l6Code_eq h3 (by omega) hok
                rw [show upB s l k = decide (code r < code b) from upAt_next hb hr (by omega) hok]
                have hk1 : (0 : Int) < (k : Int) := by omega
                simp only [hk1, decide_true, if_true, Bool.not_true, Bool.false_eq_true, if_false]
                rw [idx_pred (by omega) (by omega) hr]
                simp only [Option.bind_some, e1, e2]
                by_cases hlt : code r < code b
                · simp [hlt, show ¬ code b ≤ code r by omega]
                · simp [hlt, show code b ≤ code r by omega]
          · intro nx
            simp [GsL6Good.l1, letK, appK, iteK_if]
          · omega
      · intro k nx hk
        obtain ⟨z, hz, hi⟩ := at_lt (l := s) (k := k) hk
        have hlt0 : (k : Int) < (s.length : Int) := by omega
        simp only [GsL6Good.l0, letK, hlt0, decide_true, hi, Option.bind_some, l1In_eq, appK, iteK_if, hz, if_true]
        rw [next_i (by omega)]
        exact ⟨fun h => by simp [h], fun h => by simp [h]⟩
      · intro nx
        simp [GsL6Good.l0, letK, appK, iteK_if]
      · omega
    · simp [h2, show (20 < (l.length : Int)) by omega]
end Go.Proofs.YtekacbjnpeglhaaDoor.Q6Tab

/- Chapter 6: tables of kinds: the plain functions of the program and of the reference agree, and the laws answer true. (Q6Kind) No condition but those of each theorem. -/
namespace Go.Proofs.YtekacbjnpeglhaaDoor.Q6Kind
set_option linter.unusedVariables false
set_option linter.unusedSimpArgs false
open Go.RowKit
open Go.Proofs.YtekacbjnpeglhaaDoor.GoP Go.Proofs.YtekacbjnpeglhaaDoor.PlainStamp Go.Proofs.YtekacbjnpeglhaaDoor.QBase Go.Proofs.YtekacbjnpeglhaaDoor.Q6Tab Go.Proofs.YtekacbjnpeglhaaDoor.Q6Ban Go.Proofs.YtekacbjnpeglhaaDoor.QLoop Go.Proofs.YtekacbjnpeglhaaDoor.QAll Go.Proofs.YtekacbjnpeglhaaDoor.PBan

def okV (s k : List Int) (i : Nat) : Bool := match s[i]?, k[i]? with | some z, some v => inB v 0 (z - 1) | _, _ => true
def okK (s k : List Int) : Bool := decide (k.length = s.length) && allN k.length (okV s k)
theorem okK_len {s k : List Int} (h : okK s k = true) : k.length = s.length := by
  unfold okK at h; simp only [Bool.and_eq_true, decide_eq_true_eq] at h; exact h.1
theorem okK_at {s k : List Int} (h : okK s k = true) {i : Nat} {z v : Int} (hz : s[i]? = some z) (hv : k[i]? = some v) : 0 ≤ v ∧ v < z := by
  unfold okK at h
  simp only [Bool.and_eq_true, decide_eq_true_eq] at h
  have := allN_iff.1 h.2 i (List.getElem?_eq_some_iff.1 hv).1
  unfold okV at this
  rw [hz, hv] at this
  have := inB_of this
  omega
theorem okK_mk {s k : List Int} (hl : k.length = s.length) (h : ∀ (i : Nat) (z v : Int), s[i]? = some z → k[i]? = some v → 0 ≤ v ∧ v < z) : okK s k = true := by
  unfold okK
  simp only [Bool.and_eq_true, decide_eq_true_eq]
  refine ⟨hl, allN_iff.2 fun i hi => ?_⟩
  obtain ⟨v, hv, _⟩ := at_lt (l := k) (k := i) hi
  obtain ⟨z, hz, _⟩ := at_lt (l := s) (k := i) (by omega)
  unfold okV
  rw [hz, hv]
  have := h i z v hz hv
  exact inB_yes (by omega) (by omega)
theorem isKind_eq (s : List Int) (l : List Ban) (k : List Int) (hs : s.length ≤ 9223372036854775807) (hl : l.length ≤ 9223372036854775807) : GiIsKind.P s l k = some (okT s l && okK s k) := by
  simp only [GiIsKind.P, isTable_eq s l hs hl, Option.bind_some, letK, joinK, appK, iteK_if]
  cases ht : okT s l with
  | false => simp
  | true =>
    obtain ⟨t1, t2, t3, t4, t5⟩ := okT_of ht
    by_cases hk : k.length = s.length
    · have e1 : ((k.length : Int) != (s.length : Int)) = false := by rw [hk]; simp
      simp only [e1, Bool.not_true, Bool.false_eq_true, if_false, Bool.true_and]
      rw [all_cnt (p := okV s k) (no := false)]
      · unfold okK; cases allN k.length (okV s k) <;> simp [hk, GiIsKind.e0]
      · intro i nx hi
        obtain ⟨v, hv, hvi⟩ := at_lt (l := k) (k := i) hi
        obtain ⟨z, hz, _⟩ := at_lt (l := s) (k := i) (by omega)
        simp only [GiIsKind.l0, hvi, Option.bind_some, hasValue_eq s t4 (by omega), letK, appK, iteK_if]
        have e2 : inB (i : Int) 0 (s.length - 1) = true := inB_yes (by omega) (by omega)
        have e3 : okV s k i = inB v 0 (z - 1) := by unfold okV; rw [hz, hv]
        have e4 : hasV s (i : Int) v = inB v 0 (z - 1) := by unfold hasV; rw [e2, Int.toNat_natCast, hz]; simp
        rw [e3, e4]
        exact ⟨fun h => by simp [h], fun h => by simp [h]⟩
    · have e1 : ((k.length : Int) != (s.length : Int)) = true := by simp; omega
      unfold okK
      simp [e1, hk]
theorem l6Kind_eq {s : List Int} {l : List Ban} (ht : okT s l = true) (k : List Int) : GsL6Kind.P s l k = some (okK s k) := by
  obtain ⟨t1, t2, t3, t4, t5⟩ := okT_of ht
  simp only [GsL6Kind.P, letK, iteK_if]
  by_cases hk : k.length = s.length
  · have e1 : ((k.length : Int) != (s.length : Int)) = false := by rw [hk]; simp
    simp only [e1, Bool.false_eq_true, if_false]
    rw [all_cnt (p := okV s k) (no := false)]
    · unfold okK; cases allN k.length (okV s k) <;> simp [hk, GsL6Kind.e0]
    · intro i nx hi
      obtain ⟨v, hv, hvi⟩ := at_lt (l := k) (k := i) hi
      obtain ⟨z, hz, hzi⟩ := at_lt (l := s) (k := i) (by omega)
      have hz2 := okS_at t4 hz
      simp only [GsL6Kind.l0, hvi, hzi, Option.bind_some, l1In_eq, letK, appK, iteK_if]
      rw [wrap_in (by omega) (by omega)]
      have e3 : okV s k i = inB v 0 (z - 1) := by unfold okV; rw [hz, hv]
      rw [e3]
      exact ⟨fun h => by simp [h], fun h => by simp [h]⟩
  · have e1 : ((k.length : Int) != (s.length : Int)) = true := by simp; omega
    unfold okK
    simp [e1, hk]
/-- does the ban forbid the kind -/
def frb (k : List Int) (b : Ban) : Bool := (k[b.a.toNat]?.getD 0 == b.x) && (k[b.b.toNat]?.getD 0 == b.y)
def free (l : List Ban) (k : List Int) : Bool := l.all fun b => !frb k b
theorem okB_nat {s : List Int} (hs : okS s = true) (hl : s.length ≤ 5) {b : Ban} (h : okB s b = true) : ∃ i j : Nat, b.a = (i : Int) ∧ b.b = (j : Int) ∧ i < j ∧ j < s.length := by
  have := okB_in hs hl h
  exact ⟨b.a.toNat, b.b.toNat, by omega, by omega, by omega, by omega⟩
theorem forbids_eq {s : List Int} (hs : okS s = true) (hl : s.length ≤ 5) {b : Ban} (h : okB s b = true) {k : List Int} (hk : k.length = s.length) : GiForbids.P b k = some (frb k b) := by
  obtain ⟨i, j, h1, h2, h3, h4⟩ := okB_nat hs hl h
  obtain ⟨a, x, c, y⟩ := b
  dsimp only at h1 h2
  subst h1; subst h2
  obtain ⟨u, hu, hui⟩ := at_lt (l := k) (k := i) (by omega)
  obtain ⟨v, hv, hvi⟩ := at_lt (l := k) (k := j) (by omega)
  simp only [GiForbids.P, unBan, hui, hvi, Option.bind_some, letK, joinK, appK, iteK_if, frb, Int.toNat_natCast, hu, hv, Option.getD_some]
  cases u == x <;> simp
theorem bans_at {s : List Int} {l : List Ban} (ht : okT s l = true) {i : Nat} {b : Ban} (hb : l[i]? = some b) : okB s b = true := (okT_of ht).2.2.2.2 b (List.mem_of_getElem? hb)
theorem free_allN (l : List Ban) (k : List Int) : free l k = allN l.length fun i => match l[i]? with | some b => !frb k b | none => true := by
  rw [Bool.eq_iff_iff, allN_iff]
  unfold free
  rw [List.all_eq_true]
  constructor
  · intro h i hi
    obtain ⟨b, hb, _⟩ := at_lt (l := l) (k := i) hi
    simp only [hb]
    exact h b (List.mem_of_getElem? hb)
  · intro h b hb
    obtain ⟨i, hi⟩ := List.getElem?_of_mem hb
    have := h i (List.getElem?_eq_some_iff.1 hi).1
    simpa only [hi] using this
theorem contains_eq {s : List Int} {l : List Ban} (ht : okT s l = true) {k : List Int} (hk : k.length = s.length) :
    GxSlicesContainsFuncLoopExampleG01062ImplBanLoopExampleG01062ImplBaniIsCompatible1.P l k = some (!free l k) := by
  obtain ⟨t1, t2, t3, t4, t5⟩ := okT_of ht
  simp only [GxSlicesContainsFuncLoopExampleG01062ImplBanLoopExampleG01062ImplBaniIsCompatible1.P, letK]
  obtain ⟨c, hc, hi⟩ : ∃ c, GxSlicesIndexFuncLoopExampleG01062ImplBanLoopExampleG01062ImplBaniIsCompatible1.P l k = some c ∧ (0 ≤ c ↔ free l k = false) := by
    simp only [GxSlicesIndexFuncLoopExampleG01062ImplBanLoopExampleG01062ImplBaniIsCompatible1.P]
    refine cnt_ex (n := l.length) (Q := fun c => 0 ≤ c ↔ free l k = false) (fun j _ => ∀ i b, i < j → l[i]? = some b → frb k b = false) ?_ ?_ l.length 0 () (by omega) (fun i b hi _ => by omega)
    · intro j _ nx hj hI hn
      obtain ⟨b, hb, hbi⟩ := at_lt (l := l) (k := j) hj
      simp only [GxSlicesIndexFuncLoopExampleG01062ImplBanLoopExampleG01062ImplBaniIsCompatible1.l0, hbi, Option.bind_some, unBan, GiIsCompatible1.P, forbids_eq t4 t2 (t5 b (List.mem_of_getElem? hb)) hk, appK, iteK_if]
      cases hf : frb k b with
      | true =>
        refine ⟨_, by rw [if_pos rfl], ⟨fun _ => ?_, fun _ => by omega⟩⟩
        rw [Bool.eq_false_iff]
        intro ha
        have := List.all_eq_true.1 ha b (List.mem_of_getElem? hb)
        rw [hf] at this; simp at this
      | false =>
        rw [if_neg (by simp)]
        refine hn () (fun i b' hi hb' => ?_)
        by_cases he : i = j
        · subst he; obtain rfl := Option.some.inj (hb.symm.trans hb'); exact hf
        · exact hI i b' (by omega) hb'
    · intro _ hI
      refine ⟨_, rfl, ⟨fun h => by omega, fun h => ?_⟩⟩
      exfalso
      rw [Bool.eq_false_iff] at h
      refine h (List.all_eq_true.2 fun b hb => ?_)
      obtain ⟨i, hi⟩ := List.getElem?_of_mem hb
      rw [hI i b (List.getElem?_eq_some_iff.1 hi).1 hi]; rfl
  rw [hc]
  simp only [Option.bind_some]
  cases hf : free l k with
  | false => rw [decide_eq_true (hi.2 hf)]; rfl
  | true => rw [decide_eq_false (fun h => by rw [hi.1 h] at hf; exact absurd hf (by simp))]; rfl
theorem l6Free_eq {s : List Int} {l : List Ban} (ht : okT s l = true) {k : List Int} (hk : k.length = s.length) (fuel : Nat) (hf : 21 ≤ fuel) : GsL6Free.P fuel s l k = some (free l k) := by
  obtain ⟨t1, t2, t3, t4, t5⟩ := okT_of ht
  simp only [GsL6Free.P]
  rw [all_lp (n := l.length) (p := fun i => match l[i]? with | some b => !frb k b | none => true) (no := false)]
  · rw [free_allN]
    cases allN l.length (fun i => match l[i]? with | some b => !frb k b | none => true) <;> simp [GsL6Free.e0, letK]
  · intro i nx hi
    obtain ⟨b, hb, hbi⟩ := at_lt (l := l) (k := i) hi
    obtain ⟨p, q, h1, h2, h3, h4⟩ := okB_nat t4 t2 (t5 b (List.mem_of_getElem? hb))
    have hlt0 : (i : Int) < (l.length : Int) := by omega
    simp only [hb]
    obtain ⟨a, x, c, y⟩ := b
    dsimp only at h1 h2
    subst h1; subst h2
    obtain ⟨u, hu, hui⟩ := at_lt (l := k) (k := p) (by omega)
    obtain ⟨v, hv, hvi⟩ := at_lt (l := k) (k := q) (by omega)
    simp only [GsL6Free.l0, letK, hlt0, decide_true, hbi, Option.bind_some, unBan, hui, hvi, joinK, appK, iteK_if, if_true, frb, Int.toNat_natCast, hu, hv, Option.getD_some]
    rw [next_i (by omega)]
    cases u == x <;> cases v == y <;> simp
  · intro nx
    simp [GsL6Free.l0, letK, appK, iteK_if]
  · omega
theorem compat_impl (s : List Int) (l : List Ban) (k : List Int) (hs : s.length ≤ 9223372036854775807) (hl : l.length ≤ 9223372036854775807) :
    GiIsCompatible.P s l k = some (okT s l && okK s k && free l k, okT s l && okK s k) := by
  simp only [GiIsCompatible.P, isKind_eq s l k hs hl, Option.bind_some, letK, iteK_if]
  cases ht : okT s l with
  | false => simp
  | true =>
    cases hk : okK s k with
    | false => simp
    | true => simp [contains_eq ht (okK_len hk)]
end Go.Proofs.YtekacbjnpeglhaaDoor.Q6Kind

/- Plain facts on decimal numerals: what a row of digits is worth, and that a numeral read back is its number. No condition. -/
namespace Go.Proofs.YtekacbjnpeglhaaDoor.PlainNum

def step (a : Nat) (c : UInt8) : Nat := 10 * a + (c.toNat - 48)
def dv (l : List UInt8) : Nat := l.foldl step 0
def Digs (l : List UInt8) : Prop := ∀ c ∈ l, 48 ≤ c.toNat ∧ c.toNat ≤ 57

theorem dv_snoc (l : List UInt8) (c : UInt8) : dv (l ++ [c]) = 10 * dv l + (c.toNat - 48) := by
  unfold dv; rw [List.foldl_append]; rfl

theorem fold_lt (l : List UInt8) : ∀ a, Digs l → l.foldl step a < (a + 1) * 10 ^ l.length := by
  induction l with
  | nil => intro a _; simp
  | cons c r ih =>
    intro a h
    have hc := h c (by simp)
    have h1 := ih (step a c) (fun x hx => h x (by simp [hx]))
    have h2 : (step a c + 1) * 10 ^ r.length ≤ (10 * (a + 1)) * 10 ^ r.length := Nat.mul_le_mul_right _ (by unfold step; omega)
    have h3 : (10 * (a + 1)) * 10 ^ r.length = (a + 1) * 10 ^ (r.length + 1) := by rw [Nat.pow_succ, Nat.mul_comm 10 (a + 1), Nat.mul_assoc, Nat.mul_comm 10]
    rw [List.foldl_cons, List.length_cons]
    omega

theorem dv_lt (l : List UInt8) (h : Digs l) : dv l < 10 ^ l.length := by
  have := fold_lt l 0 h
  unfold dv; omega

theorem dv_lt6 (l : List UInt8) (h : Digs l) (hl : l.length ≤ 6) : dv l < 1000000 := by
  have h1 := dv_lt l h
  have h2 : 10 ^ l.length ≤ 10 ^ 6 := Nat.pow_le_pow_right (by omega) hl
  omega

theorem digit_toNat (i : Nat) (h : i < 10) : (UInt8.ofNat (48 + i)).toNat = 48 + i := by
  rw [UInt8.toNat_ofNat']; omega

theorem digs_dec (u : Nat) : Digs (Lib.decDigits u) := by
  induction u using Nat.strongRecOn with
  | _ u ih =>
    rw [Lib.decDigits]
    by_cases h : u < 10
    · rw [dif_pos h]
      intro c hc
      obtain rfl : c = UInt8.ofNat (48 + u) := by simpa using hc
      rw [digit_toNat u h]; omega
    · rw [dif_neg h]
      intro c hc
      rcases List.mem_append.1 hc with h1 | h1
      · exact ih (u / 10) (by omega) c h1
      · obtain rfl : c = UInt8.ofNat (48 + u % 10) := by simpa using h1
        rw [digit_toNat _ (by omega)]; omega

theorem dv_dec (u : Nat) : dv (Lib.decDigits u) = u := by
  induction u using Nat.strongRecOn with
  | _ u ih =>
    rw [Lib.decDigits]
    by_cases h : u < 10
    · rw [dif_pos h]
      show step 0 (UInt8.ofNat (48 + u)) = u
      unfold step; rw [digit_toNat u h]; omega
    · rw [dif_neg h, dv_snoc, ih (u / 10) (by omega), digit_toNat _ (by omega)]; omega

theorem nd_le (k : Nat) : ∀ u, u < 10 ^ (k + 1) → Lib.nDigits u ≤ k + 1 := by
  induction k with
  | zero => intro u h; rw [Lib.nDigits_small (by omega)]; omega
  | succ k ih =>
    intro u h
    by_cases h10 : u < 10
    · rw [Lib.nDigits_small h10]; omega
    · rw [Lib.nDigits_big h10]
      have := ih (u / 10) (by rw [Nat.pow_succ] at h; omega)
      omega

theorem len_dec (u : Nat) (h : u ≤ 999999) : 1 ≤ (Lib.decDigits u).length ∧ (Lib.decDigits u).length ≤ 6 := by
  rw [Lib.decDigits_length]
  exact ⟨Lib.nDigits_pos u, nd_le 5 u (by omega)⟩

theorem decFrom_dv (l : List UInt8) : ∀ a, Digs l → Lib.decFrom a l = some (l.foldl step a) := by
  induction l with
  | nil => intro a _; rfl
  | cons c r ih =>
    intro a h
    have hc := h c (by simp)
    have e : Lib.digitVal c = some (c.toNat - 48) := by unfold Lib.digitVal; rw [if_pos hc]
    rw [Lib.decFrom, e]
    show Lib.decFrom (a * 10 + (c.toNat - 48)) r = _
    rw [ih _ (fun x hx => h x (by simp [hx])), Nat.mul_comm a 10]
    rfl

theorem decNat_dec (u : Nat) (h : u ≤ 999999) : Lib.decNat (Lib.decDigits u) = some u := by
  have hl := (len_dec u h).1
  unfold Lib.decNat
  rw [if_neg (by intro e; rw [List.isEmpty_iff] at e; rw [e] at hl; simp at hl), decFrom_dv _ 0 (digs_dec u)]
  exact congrArg some (dv_dec u)

/-- l is the numeral of n -/
def Inv (l : List UInt8) (n : Int) : Prop := -999999 ≤ n ∧ n ≤ 999999 ∧ Lib.itoa n = l

theorem itoa_cases (n : Int) : (n < 0 ∧ Lib.itoa n = 45 :: Lib.decDigits n.natAbs) ∨ (0 ≤ n ∧ Lib.itoa n = Lib.decDigits n.natAbs) := by
  by_cases h : n < 0
  · left; refine ⟨h, ?_⟩; unfold Lib.itoa; rw [if_pos h]
  · right; refine ⟨by omega, ?_⟩; unfold Lib.itoa; rw [if_neg h]; congr 1; omega

theorem itoa_len (n : Int) (h1 : -999999 ≤ n) (h2 : n ≤ 999999) : 1 ≤ (Lib.itoa n).length ∧ (Lib.itoa n).length ≤ 7 := by
  have := len_dec n.natAbs (by omega)
  rcases itoa_cases n with ⟨_, e⟩ | ⟨_, e⟩
  · rw [e, List.length_cons]; omega
  · rw [e]; omega

theorem atoi_itoa (n : Int) (h1 : -999999 ≤ n) (h2 : n ≤ 999999) : Lib.atoiAll (Lib.itoa n) = .ok n := by
  rw [Lib.atoiAll_short _ (by have := itoa_len n h1 h2; omega)]
  have hd := decNat_dec n.natAbs (by omega)
  rcases itoa_cases n with ⟨hn, e⟩ | ⟨hn, e⟩
  · rw [e]
    show Lib.NumEnd.ofOption ((Lib.decNat (Lib.decDigits n.natAbs)).map fun (m : Nat) => -(m : Int)) = _
    rw [hd]
    show Lib.NumEnd.ok (-((n.natAbs : Nat) : Int)) = _
    congr 1; omega
  · rw [e]
    have hl := len_dec n.natAbs (by omega)
    have hg := digs_dec n.natAbs
    cases hx : Lib.decDigits n.natAbs with
    | nil => rw [hx] at hl; simp at hl
    | cons b r =>
      rw [hx] at hg hd
      have hb := hg b (by simp)
      have e1 : (b == 45) = false := by
        rw [beq_eq_false_iff_ne]; rintro rfl; have : (45 : UInt8).toNat = 45 := rfl; omega
      have e2 : (b == 43) = false := by
        rw [beq_eq_false_iff_ne]; rintro rfl; have : (43 : UInt8).toNat = 43 := rfl; omega
      unfold Lib.atoi
      simp only [e1, e2, Bool.false_eq_true, if_false, hd]
      show Lib.NumEnd.ok ((n.natAbs : Nat) : Int) = _
      congr 1; omega

theorem Inv.uniq {l : List UInt8} {n m : Int} (h : Inv l n) (k : Inv l m) : n = m := by
  have e1 := atoi_itoa n h.1 h.2.1
  have e2 := atoi_itoa m k.1 k.2.1
  rw [h.2.2] at e1
  rw [k.2.2] at e2
  rw [e1] at e2
  injection e2

/-- how a numeral's reading ends: the number and true; else 0 and false -/
def Rd (l : List UInt8) (v : Int) (b : Bool) : Prop := (b = true ∧ Inv l v) ∨ (b = false ∧ v = 0 ∧ ∀ n, ¬ Inv l n)

theorem Rd.uniq {l : List UInt8} {v v' : Int} {b b' : Bool} (h : Rd l v b) (k : Rd l v' b') : v = v' ∧ b = b' := by
  rcases h with ⟨rfl, h⟩ | ⟨rfl, rfl, h⟩ <;> rcases k with ⟨rfl, k⟩ | ⟨rfl, rfl, k⟩
  · exact ⟨h.uniq k, rfl⟩
  · exact absurd h (k _)
  · exact absurd k (h _)
  · exact ⟨rfl, rfl⟩

theorem Rd.no {l : List UInt8} (h : ∀ n, ¬ Inv l n) : Rd l 0 false := .inr ⟨rfl, rfl, h⟩
theorem Rd.yes {l : List UInt8} {n : Int} (h : Inv l n) : Rd l n true := .inl ⟨rfl, h⟩

theorem neg_head {r : List UInt8} {n : Int} (h : Inv (45 :: r) n) : n < 0 ∧ r = Lib.decDigits n.natAbs := by
  obtain ⟨h1, h2, h3⟩ := h
  rcases itoa_cases n with ⟨hn, e⟩ | ⟨hn, e⟩
  · rw [e] at h3; injection h3 with _ h3; exact ⟨hn, h3.symm⟩
  · rw [e] at h3
    have := digs_dec n.natAbs 45 (by rw [h3]; simp)
    have e45 : (45 : UInt8).toNat = 45 := rfl
    omega

theorem pos_head {l : List UInt8} {n : Int} (h : Inv l n) (h45 : l.head? ≠ some 45) : 0 ≤ n ∧ l = Lib.decDigits n.natAbs := by
  obtain ⟨h1, h2, h3⟩ := h
  rcases itoa_cases n with ⟨hn, e⟩ | ⟨hn, e⟩
  · rw [e] at h3; subst h3; simp at h45
  · exact ⟨hn, by rw [← h3, e]⟩

/-- the numeral behind the sign -/
theorem no_minus {r : List UInt8} (h : r.length = 0 ∨ 6 < r.length ∨ ¬ Digs r) (n : Int) : ¬ Inv (45 :: r) n := by
  intro k
  obtain ⟨hn, rfl⟩ := neg_head k
  have hl := len_dec n.natAbs (by have := k.1; omega)
  have hd := digs_dec n.natAbs
  rcases h with h | h | h
  · omega
  · omega
  · exact h hd

theorem no_plain {l : List UInt8} (h45 : l.head? ≠ some 45) (h : l.length = 0 ∨ 6 < l.length ∨ ¬ Digs l) (n : Int) : ¬ Inv l n := by
  intro k
  obtain ⟨hn, rfl⟩ := pos_head k h45
  have hl := len_dec n.natAbs (by have := k.2.1; omega)
  have hd := digs_dec n.natAbs
  rcases h with h | h | h
  · omega
  · omega
  · exact h hd

theorem val_minus {r : List UInt8} {n : Int} (k : Inv (45 :: r) n) : n = -(dv r : Int) := by
  obtain ⟨hn, rfl⟩ := neg_head k
  rw [dv_dec]; omega
theorem val_plain {l : List UInt8} {n : Int} (h45 : l.head? ≠ some 45) (k : Inv l n) : n = (dv l : Int) := by
  obtain ⟨hn, rfl⟩ := pos_head k h45
  rw [dv_dec]; omega

/-- the end: the numeral of what was read is the text, or the text is no numeral -/
theorem end_minus {r : List UInt8} (hg : Digs r) (hl : r.length ≤ 6) : (Lib.itoa (-(dv r : Int)) = 45 :: r → Rd (45 :: r) (-(dv r : Int)) true) ∧ (Lib.itoa (-(dv r : Int)) ≠ 45 :: r → Rd (45 :: r) 0 false) := by
  have hb := dv_lt6 r hg hl
  exact ⟨fun e => .yes ⟨by omega, by omega, e⟩, fun e => .no fun n k => e (by rw [← val_minus k]; exact k.2.2)⟩
theorem end_plain {l : List UInt8} (h45 : l.head? ≠ some 45) (hg : Digs l) (hl : l.length ≤ 6) : (Lib.itoa (dv l : Int) = l → Rd l (dv l : Int) true) ∧ (Lib.itoa (dv l : Int) ≠ l → Rd l 0 false) := by
  have hb := dv_lt6 l hg hl
  exact ⟨fun e => .yes ⟨by omega, by omega, e⟩, fun e => .no fun n k => e (by rw [← val_plain h45 k]; exact k.2.2)⟩

theorem one_minus {l : List UInt8} (hp : ¬ (1 < l.length ∧ l.head? = some 45)) (h : l.head? = some 45) : l = [45] := by
  match l, hp, h with
  | [c], _, h => simpa using h
  | c :: d :: r, hp, h => exact absurd ⟨by simp, h⟩ hp

theorem no_plain' {l : List UInt8} (hp : ¬ (1 < l.length ∧ l.head? = some 45)) (h : l.length = 0 ∨ 6 < l.length ∨ ¬ Digs l) (n : Int) : ¬ Inv l n := by
  by_cases h45 : l.head? = some 45
  · rw [one_minus hp h45]; exact no_minus (.inl rfl) n
  · exact no_plain h45 h n

theorem end_plain' {l : List UInt8} (hg : Digs l) (hl : l.length ≤ 6) : (Lib.itoa (dv l : Int) = l → Rd l (dv l : Int) true) ∧ (Lib.itoa (dv l : Int) ≠ l → Rd l 0 false) := by
  refine end_plain (fun h => ?_) hg hl
  cases l with
  | nil => simp at h
  | cons c r =>
    obtain rfl : c = 45 := by simpa using h
    have := hg 45 (by simp)
    have e45 : (45 : UInt8).toNat = 45 := rfl
    omega

end Go.Proofs.YtekacbjnpeglhaaDoor.PlainNum

/- Plain words on the text of a face, and on short decimal texts. No condition. -/
namespace Go.Proofs.YtekacbjnpeglhaaDoor.PlainFace
set_option linter.unusedVariables false
open Go.Proofs.YtekacbjnpeglhaaDoor.PlainNum

def dig (d : Int) : UInt8 := UInt8.ofNat (48 + d.toNat)
theorem itoa_nn {n : Int} (h : 0 ≤ n) : Lib.itoa n = Lib.decDigits n.toNat := by
  rcases itoa_cases n with ⟨h1, _⟩ | ⟨_, e⟩
  · omega
  · rw [e]; congr 1; omega
theorem itoa_dig {d : Int} (h0 : 0 ≤ d) (h : d < 10) : Lib.itoa d = [dig d] := by
  rw [itoa_nn h0, Lib.decDigits_one (by omega)]
  rfl
theorem dec_step (n : Nat) (h : 10 ≤ n) : Lib.decDigits n = Lib.decDigits (n / 10) ++ [UInt8.ofNat (48 + n % 10)] := by
  rw [Lib.decDigits, dif_neg (by omega)]
theorem itoa_hund {r : Int} (h0 : 0 ≤ r) (h : r < 100) : Lib.itoa (100 + r) = [49, dig (r / 10), dig (r % 10)] := by
  rw [itoa_nn (by omega), dec_step _ (by omega), dec_step _ (by omega), Lib.decDigits_one (by omega)]
  unfold dig
  rw [show (100 + r).toNat / 10 / 10 = 1 by omega, show (100 + r).toNat / 10 % 10 = (r / 10).toNat by omega, show (100 + r).toNat % 10 = (r % 10).toNat by omega]
  rfl
theorem itoa_hund' {n : Int} (h0 : 0 ≤ n) : Lib.itoa (100 + n % 100) = [49, dig (n % 100 / 10), dig (n % 10)] := by
  rw [itoa_hund (by omega) (by omega), show n % 100 % 10 = n % 10 by omega]
theorem itoa_short {n : Int} (h1 : -999999 ≤ n) (h2 : n ≤ 999999) : (Lib.itoa n).length ≤ 7 := (itoa_len n h1 h2).2
/-- the text of a face -/
def faceL (n : Int) : List UInt8 := Lib.itoa (n / 100) ++ [46] ++ Lib.itoa (n / 10 % 10) ++ Lib.itoa (n % 10)
theorem faceL_len {n : Int} (h0 : 0 ≤ n) (h : n ≤ 9999) : (faceL n).length ≤ 30 := by
  unfold faceL
  have a := itoa_short (n := n / 100) (by omega) (by omega)
  have b := itoa_short (n := n / 10 % 10) (by omega) (by omega)
  have c := itoa_short (n := n % 10) (by omega) (by omega)
  simp only [List.length_append, List.length_cons, List.length_nil]
  omega
theorem faceL_hund {n : Int} (h0 : 0 ≤ n) (h : n ≤ 9999) : faceL n = Lib.itoa (n / 100) ++ [46] ++ [dig (n % 100 / 10), dig (n % 10)] := by
  unfold faceL
  rw [itoa_dig (d := n / 10 % 10) (by omega) (by omega), itoa_dig (d := n % 10) (by omega) (by omega), show n % 100 / 10 = n / 10 % 10 by omega, List.append_assoc]
  rfl
def str (l : List UInt8) : ByteArray := ⟨l.toArray⟩
def faceRes (n : Int) : ByteArray × Bool := if 0 ≤ n ∧ n ≤ 9999 then (str (faceL n), true) else (⟨#[]⟩, false)
theorem faceRes_yes {n : Int} (h0 : 0 ≤ n) (h : n ≤ 9999) : faceRes n = (str (faceL n), true) := by unfold faceRes; rw [if_pos ⟨h0, h⟩]
theorem faceRes_no {n : Int} (h : n < 0 ∨ 9999 < n) : faceRes n = (⟨#[]⟩, false) := by unfold faceRes; rw [if_neg (by omega)]
end Go.Proofs.YtekacbjnpeglhaaDoor.PlainFace

/- Decimal texts as plain functions: Itoa and l1Num, for short numbers. No condition. -/
namespace Go.Proofs.YtekacbjnpeglhaaDoor.QNum
set_option linter.unusedVariables false
set_option linter.unusedSimpArgs false
open Go.RowKit
open Go.Proofs.YtekacbjnpeglhaaDoor.GoP Go.Proofs.YtekacbjnpeglhaaDoor.QBase

def itoaB (n : Int) : ByteArray := ⟨(Lib.itoa n).toArray⟩
theorem itoa_eq {n : Int} (h1 : -999999 ≤ n) (h2 : n ≤ 999999) : GxStrconvItoa.P n = some (itoaB n) := by unfold GxStrconvItoa.P; rw [if_pos (by omega)]; rfl
theorem num_eq {n : Int} (h1 : -999999 ≤ n) (h2 : n ≤ 999999) : GsL1Num.P n = some (itoaB n) := by unfold GsL1Num.P; rw [if_pos (by omega)]; rfl
theorem itoaB_size {n : Int} (h1 : -999999 ≤ n) (h2 : n ≤ 999999) : (itoaB n).size ≤ 7 := by
  show (Lib.itoa n).toArray.size ≤ 7
  rw [List.size_toArray]; exact (PlainNum.itoa_len n h1 h2).2
theorem wrap_short {x : Int} (h1 : -9223372036854775808 ≤ x) (h2 : x ≤ 9223372036854775807) : IntKind.i64.wrap x = x := IntWalk.i64_in _ (by omega)
theorem fits_cat {a b : ByteArray} (h : a.size + b.size ≤ 9223372036854775807) {ρ : Type} {x : Option ρ} : guardK (a.size + b.size ≤ maxLen) x = x := guardK_pos (by unfold maxLen; exact h)
end Go.Proofs.YtekacbjnpeglhaaDoor.QNum

/- Texts of gauges and combs: the plain functions of the program and of the reference agree, and the laws answer true. (QText) No condition but those of each theorem. -/
namespace Go.Proofs.YtekacbjnpeglhaaDoor.QText
set_option linter.unusedVariables false
set_option linter.unusedSimpArgs false
open Go.RowKit
open Go.Proofs.YtekacbjnpeglhaaDoor.GoP Go.Proofs.YtekacbjnpeglhaaDoor.PlainStamp Go.Proofs.YtekacbjnpeglhaaDoor.QBase Go.Proofs.YtekacbjnpeglhaaDoor.QNum Go.Proofs.YtekacbjnpeglhaaDoor.PlainFace

theorem sz_mk (a : Array UInt8) : (⟨a⟩ : ByteArray).size = a.size := rfl
theorem str_size (l : List UInt8) : (str l).size = l.length := by unfold str; rw [sz_mk, List.size_toArray]
theorem str_list (l : List UInt8) : (str l).toList = l := by rw [Lib.toList_data]; simp [str]
theorem str_app (a b : List UInt8) : str a ++ str b = str (a ++ b) := by
  apply ByteArray.ext; simp [str]
theorem str_cut (l : List UInt8) (i j : Nat) : (str l).extract i j = str ((l.take j).drop i) := by
  apply ByteArray.ext
  simp [str, List.drop_take]
theorem itoaB_str (n : Int) : itoaB n = str (Lib.itoa n) := rfl
theorem mk_str (l : List UInt8) : (⟨l.toArray⟩ : ByteArray) = str l := rfl
theorem dig_cases {d : Int} (h0 : 0 ≤ d) (h : d < 10) : d = 0 ∨ d = 1 ∨ d = 2 ∨ d = 3 ∨ d = 4 ∨ d = 5 ∨ d = 6 ∨ d = 7 ∨ d = 8 ∨ d = 9 := by omega
theorem dig_zero : dig 0 = 48 := rfl
theorem dig_not {d : Int} (h0 : 0 < d) (h : d < 10) : (dig d == 48) = false := by
  rcases dig_cases (d := d) (by omega) h with rfl | rfl | rfl | rfl | rfl | rfl | rfl | rfl | rfl | rfl <;> first | omega | decide
theorem dig_dot {d : Int} (h0 : 0 ≤ d) (h : d < 10) : dig d ≠ 46 := by
  rcases dig_cases h0 h with rfl | rfl | rfl | rfl | rfl | rfl | rfl | rfl | rfl | rfl <;> decide
end Go.Proofs.YtekacbjnpeglhaaDoor.QText

/- Chapter 6: texts of kinds: the plain functions of the program and of the reference agree, and the law answers true. (Q6Text) No condition but those of each theorem. -/
namespace Go.Proofs.YtekacbjnpeglhaaDoor.Q6Text
set_option linter.unusedVariables false
set_option linter.unusedSimpArgs false
open Go.RowKit
open Go.Proofs.YtekacbjnpeglhaaDoor.GoP Go.Proofs.YtekacbjnpeglhaaDoor.PlainStamp Go.Proofs.YtekacbjnpeglhaaDoor.QBase Go.Proofs.YtekacbjnpeglhaaDoor.Q6Kind Go.Proofs.YtekacbjnpeglhaaDoor.Q6Tab Go.Proofs.YtekacbjnpeglhaaDoor.Q6Ban Go.Proofs.YtekacbjnpeglhaaDoor.QLoop Go.Proofs.YtekacbjnpeglhaaDoor.QAll Go.Proofs.YtekacbjnpeglhaaDoor.QText Go.Proofs.YtekacbjnpeglhaaDoor.QNum Go.Proofs.YtekacbjnpeglhaaDoor.PlainFace Go.Proofs.YtekacbjnpeglhaaDoor.PBan

def jn (k : List Int) : List UInt8 := Lib.join (k.map Lib.itoa) [45]
theorem join_snoc (xs : List (List UInt8)) (y sep : List UInt8) : Lib.join (xs ++ [y]) sep = if xs = [] then y else Lib.join xs sep ++ sep ++ y := by
  cases xs with
  | nil => simp [Lib.join_one]
  | cons x r =>
    rw [if_neg (by simp), List.cons_append, Lib.join_cons, Lib.join_cons]
    simp [Lib.joinTail]
theorem jn_snoc (k : List Int) (v : Int) : jn (k ++ [v]) = if k = [] then Lib.itoa v else jn k ++ [45] ++ Lib.itoa v := by
  unfold jn
  rw [List.map_append, List.map_cons, List.map_nil, join_snoc]
  by_cases h : k = [] <;> simp [h]
theorem jn_take {k : List Int} (hk : ∀ v ∈ k, 0 ≤ v ∧ v ≤ 4) : ∀ j, j ≤ k.length → (jn (k.take j)).length ≤ 9 * j := by
  intro j
  induction j with
  | zero => intro _; simp [jn, Lib.join_nil]
  | succ j ih =>
    intro hj
    have h1 := ih (by omega)
    obtain ⟨v, hv, _⟩ := at_lt (l := k) (k := j) (by omega)
    have h2 := hk v (List.mem_of_getElem? hv)
    have h3 := itoa_short (n := v) (by omega) (by omega)
    rw [take_next hv, jn_snoc]
    split
    · omega
    · simp only [List.length_append, List.length_cons, List.length_nil]; omega
def kRes (s : List Int) (l : List Ban) (k : List Int) : ByteArray × Bool := if (okT s l && okK s k) = true then (str (jn k ++ if free l k = true then [] else [33]), true) else (str [], false)
theorem kind_small {s : List Int} {l : List Ban} (ht : okT s l = true) {k : List Int} (hk : okK s k = true) : ∀ v ∈ k, 0 ≤ v ∧ v ≤ 4 := by
  intro v hv
  obtain ⟨i, hi⟩ := List.getElem?_of_mem hv
  have hlt := (List.getElem?_eq_some_iff.1 hi).1
  obtain ⟨z, hz, _⟩ := at_lt (l := s) (k := i) (by have := okK_len hk; omega)
  have h1 := okK_at hk hz hi
  have h2 := okS_at (okT_of ht).2.2.2.1 hz
  omega
theorem e_str : (⟨#[]⟩ : ByteArray) = str [] := rfl
theorem bang_str : (⟨#[33]⟩ : ByteArray) = str [33] := rfl
theorem dash_str : (⟨#[45]⟩ : ByteArray) = str [45] := rfl
theorem text_impl (s : List Int) (l : List Ban) (k : List Int) (hs : s.length ≤ 9223372036854775807) (hl : l.length ≤ 9223372036854775807) : GiKindText.P s l k = some (kRes s l k) := by
  simp only [GiKindText.P, compat_impl s l k hs hl, bind2_some, letK, iteK_if, kRes]
  cases ht : okT s l with
  | false => simp [e_str]
  | true =>
    cases hk : okK s k with
    | false => simp [e_str]
    | true =>
      have hlen := okK_len hk
      have h5 := (okT_of ht).2.1
      have hsm := kind_small ht hk
      simp only [Bool.true_and, Bool.and_true, Bool.not_true, Bool.false_eq_true, if_false, if_true]
      refine cnt_is _ (fun j st => st = (k.take j).map fun v => str (Lib.itoa v)) ?_ ?_ [] (by simp)
      · intro j st nx hj h hn
        obtain ⟨v, hv, hvi⟩ := at_lt (l := k) (k := j) hj
        have hv4 := hsm v (List.mem_of_getElem? hv)
        simp only [GiKindText.l0, letK, hvi, Option.bind_some, appK]
        rw [itoa_eq (by omega) (by omega)]
        simp only [Option.bind_some, itoaB_str]
        rw [guardK_pos (by rw [h]; simp; omega)]
        exact hn _ (by rw [h, take_next hv]; simp)
      · intro st h
        rw [List.take_length] at h
        have hj : GxStringsJoin.P st ⟨#[45]⟩ = some (str (jn k)) := by
          have e1 : st.map (·.data.toList) = k.map Lib.itoa := by
            rw [h, List.map_map]
            apply List.map_congr_left
            intro v _
            simp [str]
          have e2 : (⟨#[45]⟩ : ByteArray).data.toList = [45] := rfl
          have hb := jn_take hsm k.length (Nat.le_refl _)
          rw [List.take_length] at hb
          unfold GxStringsJoin.P
          rw [e1, e2]
          rw [if_pos ⟨by rw [h]; simp; omega, by unfold jn at hb; omega⟩]
          rfl
        have hb := jn_take hsm k.length (Nat.le_refl _)
        rw [List.take_length] at hb
        simp only [GiKindText.e0, letK, hj, Option.bind_some, iteK_if]
        cases hf : free l k with
        | true => simp [GiKindText.j0]
        | false =>
          simp only [bang_str, str_app, str_size]
          rw [guardK_pos (by simp only [List.length_append, List.length_cons, List.length_nil, maxLen]; omega)]
          simp [GiKindText.j0]
theorem text_spec (fuel : Nat) (hf : 21 ≤ fuel) (s : List Int) (l : List Ban) (k : List Int) (hs : s.length ≤ 9223372036854775807) (hl : l.length ≤ 9223372036854775807) : GsKindText.P fuel s l k = some (kRes s l k) := by
  simp only [GsKindText.P, l6Good_eq fuel hf s l hs hl, Option.bind_some, letK, joinK, appK, iteK_if, kRes]
  cases ht : okT s l with
  | false => simp [e_str]
  | true =>
    simp only [l6Kind_eq ht, Option.bind_some]
    cases hk : okK s k with
    | false => simp [e_str]
    | true =>
      have hlen := okK_len hk
      have h5 := (okT_of ht).2.1
      have hsm := kind_small ht hk
      simp only [Bool.true_and, Bool.and_true, Bool.not_true, Bool.false_eq_true, if_false, if_true]
      refine cnt_is _ (fun j st => st = str (jn (k.take j))) ?_ ?_ _ (by simp [jn, Lib.join_nil, e_str])
      · intro j st nx hj h hn
        obtain ⟨v, hv, hvi⟩ := at_lt (l := k) (k := j) hj
        have hv4 := hsm v (List.mem_of_getElem? hv)
        have hb := jn_take hsm j (by omega)
        have h3 := itoa_short (n := v) (by omega) (by omega)
        have hn' := hn (str (jn (k.take (j + 1)))) rfl
        rw [take_next hv, jn_snoc] at hn'
        simp only [GsKindText.l0, GsKindText.j0, letK, hvi, Option.bind_some, appK, iteK_if]
        rw [num_eq (by omega) (by omega)]
        simp only [Option.bind_some, itoaB_str, h, dash_str, str_app, str_size]
        by_cases h0 : j = 0
        · subst h0
          rw [if_neg (by simp), guardK_pos (by unfold maxLen; omega)]
          rw [if_pos (by simp)] at hn'
          simpa [jn, Lib.join_nil] using hn'
        · have g1 : (jn (k.take j)).length + ([45] : List UInt8).length ≤ maxLen := by unfold maxLen; show (jn (k.take j)).length + 1 ≤ _; omega
          have g2 : (jn (k.take j) ++ [45]).length + (Lib.itoa v).length ≤ maxLen := by rw [List.length_append]; unfold maxLen; show (jn (k.take j)).length + 1 + (Lib.itoa v).length ≤ _; omega
          rw [if_pos (by simp; omega), guardK_pos g1, guardK_pos g2]
          have h9 : k.take j ≠ [] := by
            intro he
            have h8 := congrArg List.length he
            rw [List.length_take] at h8
            change min j k.length = 0 at h8
            omega
          rw [if_neg h9] at hn'
          exact hn'
      · intro st h
        rw [List.take_length] at h
        have hb := jn_take hsm k.length (Nat.le_refl _)
        rw [List.take_length] at hb
        simp only [GsKindText.e0, letK, l6Free_eq ht hlen fuel hf, Option.bind_some, iteK_if, h]
        cases hfr : free l k with
        | true => simp [GsKindText.j1]
        | false =>
          simp only [bang_str, str_app, str_size]
          rw [guardK_pos (by simp only [List.length_append, List.length_cons, List.length_nil, maxLen]; omega)]
          simp [GsKindText.j1]
end Go.Proofs.YtekacbjnpeglhaaDoor.Q6Text

/- Chapter 5: combs, holes, gauges: the plain functions of the program and of the reference agree, and the laws answer true. (QToI) No condition but those of each theorem. -/
namespace Go.Proofs.YtekacbjnpeglhaaDoor.QToI
set_option linter.unusedVariables false
set_option linter.unusedSimpArgs false
open Go.RowKit
open Go.Proofs.YtekacbjnpeglhaaDoor.GoP Go.Proofs.YtekacbjnpeglhaaDoor.PlainStamp Go.Proofs.YtekacbjnpeglhaaDoor.QBase Go.Proofs.YtekacbjnpeglhaaDoor.QLoop

theorem toI (l : List Int) (hl : l.length ≤ 1048576) : GlToIntS.P l = some l := by
  simp only [GlToIntS.P, letK]
  rw [guardK_pos (by omega)]
  refine cnt_is l (fun k s => s = l.take k ++ List.replicate (l.length - k) 0) ?_ ?_ _ (by simp)
  · intro k s nx hk hI hn
    obtain ⟨x, hx, hi⟩ := at_lt (l := l) (k := k) hk
    have hlen : s.length = l.length := by rw [hI]; simp; omega
    obtain ⟨z, hz, hj⟩ := at_lt (l := s) (k := k) (by omega)
    simp only [GlToIntS.l0, hi, hj, Option.bind_some, letK, appK]
    refine hn _ ?_
    rw [hI, take_next hx, List.set_append_right _ _ (by simp; omega)]
    have hr : l.length - k = (l.length - (k + 1)) + 1 := by omega
    rw [hr, List.replicate_succ, List.append_assoc]
    simp [show k - min k l.length = 0 by omega]
  · intro s hI
    rw [hI]; simp [GlToIntS.e0, letK]
end Go.Proofs.YtekacbjnpeglhaaDoor.QToI

/- The laws' helpers on Ban and on slices of it as plain functions: copied, equal, their bulk. No condition. -/
namespace Go.Proofs.YtekacbjnpeglhaaDoor.QHBanE
set_option linter.unusedVariables false
set_option linter.unusedSimpArgs false
open Go.RowKit
open Go.Proofs.YtekacbjnpeglhaaDoor.GoP Go.Proofs.YtekacbjnpeglhaaDoor.QBase Go.Proofs.YtekacbjnpeglhaaDoor.QLoop Go.Proofs.YtekacbjnpeglhaaDoor.PBan

theorem toOne (s : Ban) : GlToBan.P s = some s := by cases s; rfl
theorem eqOne (s : Ban) : GlEqBan.P s s = some true := by
  obtain ⟨x0, x1, x2, x3⟩ := s
  simp [GlEqBan.P, unBan, letK, joinK, appK, iteK_if]
theorem toS (l : List Ban) (hl : l.length ≤ 1048576) : GlToBanS.P l = some l := by
  simp only [GlToBanS.P, letK]
  rw [guardK_pos (by omega)]
  refine cnt_is l (fun k s => s = l.take k ++ List.replicate (l.length - k) (Ban.mk 0 0 0 0)) ?_ ?_ _ (by simp)
  · intro k s nx hk hI hn
    obtain ⟨x, hx, hi⟩ := at_lt (l := l) (k := k) hk
    have hlen : s.length = l.length := by rw [hI]; simp; omega
    obtain ⟨z, hz, hj⟩ := at_lt (l := s) (k := k) (by omega)
    simp only [GlToBanS.l0, hi, hj, toOne, Option.bind_some, unBan, letK, appK]
    refine hn _ ?_
    rw [hI, take_next hx, List.set_append_right _ _ (by simp; omega)]
    have hr : l.length - k = (l.length - (k + 1)) + 1 := by omega
    rw [hr, List.replicate_succ, List.append_assoc]
    simp [show k - min k l.length = 0 by omega]
  · intro s hI
    rw [hI]; simp [GlToBanS.e0, letK]
theorem eqS (l : List Ban) : GlEqBanS.P l l = some true := by
  simp only [GlEqBanS.P, letK, iteK_if]
  rw [if_neg (by simp)]
  refine cnt_is true (fun _ _ => True) ?_ (fun s _ => rfl) () trivial
  intro k s nx hk _ hn
  obtain ⟨x, hx, hi⟩ := at_lt (l := l) (k := k) hk
  simp only [GlEqBanS.l0, hi, Option.bind_some, unBan, eqOne, letK, appK, iteK_if]
  exact hn () trivial
theorem szS (l : List Ban) (hl : l.length ≤ 9223372036854775807) : GlSzBanS.P l 1048576 = some (if l.length ≤ 1048576 then 1048576 - (l.length : Int) else -1) := by
  simp only [GlSzBanS.P, letK, iteK_if]
  rw [wrap_in (by omega) (by omega)]
  by_cases h : l.length ≤ 1048576
  · rw [if_neg (by simp; omega), if_pos h]
  · rw [if_pos (by simp; omega), if_neg h]
end Go.Proofs.YtekacbjnpeglhaaDoor.QHBanE

/- Chapter 6: tables of kinds: the plain functions of the program and of the reference agree, and the laws answer true. (Q6Help) No condition but those of each theorem. -/
namespace Go.Proofs.YtekacbjnpeglhaaDoor.Q6Help
set_option linter.unusedVariables false
set_option linter.unusedSimpArgs false
open Go.RowKit
open Go.Proofs.YtekacbjnpeglhaaDoor.GoP Go.Proofs.YtekacbjnpeglhaaDoor.PlainStamp Go.Proofs.YtekacbjnpeglhaaDoor.QBase Go.Proofs.YtekacbjnpeglhaaDoor.QLoop Go.Proofs.YtekacbjnpeglhaaDoor.QAll Go.Proofs.YtekacbjnpeglhaaDoor.PBan Go.Proofs.YtekacbjnpeglhaaDoor.QToI Go.Proofs.YtekacbjnpeglhaaDoor.QHBanE

theorem szT (s : List Int) (l : List Ban) (hs : s.length ≤ 9223372036854775807) (hl : l.length ≤ 9223372036854775807) : ∃ c, GlSzKindTable.P s l 1048576 = some c ∧ (0 ≤ c → s.length ≤ 1048576 ∧ l.length ≤ 1048576) := by
  simp only [GlSzKindTable.P, GlSzIntS.P, GlSzBanS.P, letK, iteK_if]
  rw [wrap_in (x := 1048576 - (s.length : Int)) (by omega) (by omega)]
  by_cases h : (1048576 - (s.length : Int)) < 0
  · exact ⟨-1, by simp [h], by omega⟩
  · rw [if_neg (by simpa using h)]
    simp only [Option.bind_some]
    rw [if_neg (by simpa using h), wrap_in (by omega) (by omega)]
    by_cases h2 : (1048576 - (s.length : Int) - (l.length : Int)) < 0
    · exact ⟨-1, by simp [h2], by omega⟩
    · exact ⟨_, by rw [if_neg (by simpa using h2)]; simp only [Option.bind_some]; rw [if_neg (by simpa using h2)], by omega⟩
theorem toT (s : List Int) (l : List Ban) (hs : s.length ≤ 1048576) (hl : l.length ≤ 1048576) : GlToKindTable.P s l = some ⟨s, l⟩ := by
  simp only [GlToKindTable.P, toI s hs, toS l hl, Option.bind_some]
theorem eqI2 (l : List Int) : GlEqIntS.P l l = some true := by
  simp only [GlEqIntS.P, letK, iteK_if]
  rw [if_neg (by simp)]
  refine cnt_is true (fun _ _ => True) ?_ (fun s _ => rfl) () trivial
  intro k s nx hk _ hn
  obtain ⟨x, hx, hi⟩ := at_lt (l := l) (k := k) hk
  simp only [GlEqIntS.l0, hi, Option.bind_some, letK, appK, iteK_if]
  rw [if_neg (by simp)]
  exact hn () trivial
theorem eqT (s : List Int) (l : List Ban) : GlEqKindTable.P s l s l = some true := by
  simp [GlEqKindTable.P, eqI2, eqS, letK, iteK_if]
end Go.Proofs.YtekacbjnpeglhaaDoor.Q6Help

/- Chapter 6: texts of kinds: the plain functions of the program and of the reference agree, and the law answers true. (QL6Text) No condition but those of each theorem. -/
namespace Go.Proofs.YtekacbjnpeglhaaDoor.QL6Text
set_option linter.unusedVariables false
set_option linter.unusedSimpArgs false
open Go.RowKit
open Go.Proofs.YtekacbjnpeglhaaDoor.GoP Go.Proofs.YtekacbjnpeglhaaDoor.PlainStamp Go.Proofs.YtekacbjnpeglhaaDoor.QBase Go.Proofs.YtekacbjnpeglhaaDoor.Q6Text Go.Proofs.YtekacbjnpeglhaaDoor.Q6Kind Go.Proofs.YtekacbjnpeglhaaDoor.Q6Tab Go.Proofs.YtekacbjnpeglhaaDoor.Q6Help Go.Proofs.YtekacbjnpeglhaaDoor.QLoop Go.Proofs.YtekacbjnpeglhaaDoor.QToI Go.Proofs.YtekacbjnpeglhaaDoor.PBan

theorem law_text (fuel : Nat) (hf : 21 ≤ fuel) (s : List Int) (l : List Ban) (k : List Int) (hs : s.length ≤ 9223372036854775807) (hl : l.length ≤ 9223372036854775807) (hkl : k.length ≤ 9223372036854775807) : GlFnExactKindText.P fuel s l k = some true := by
  simp only [GlFnExactKindText.P, letK, iteK_if]
  by_cases hb0 : (1048576 : Int) < (k.length : Int)
  · rw [if_pos (by simpa using hb0)]
  · rw [if_neg (by simpa using hb0)]
    obtain ⟨c, hc, hb⟩ := szT s l hs hl
    simp only [hc, Option.bind_some]
    by_cases h : c < 0
    · simp [h]
    · obtain ⟨h1, h2⟩ := hb (by omega)
      obtain ⟨⟨p, q⟩, hr⟩ : ∃ x, x = kRes s l k := ⟨_, rfl⟩
      simp [h, toT s l h1 h2, unKindTable, toI k (by omega), text_spec fuel hf s l k hs hl, text_impl s l k hs hl, ← hr, eqT, eqI2, bind2, joinK, appK, iteK_if]
end Go.Proofs.YtekacbjnpeglhaaDoor.QL6Text

/- A slice of strings or of integers that lies in a record that came in: the list that it reads as. No condition. -/
namespace Go.Proofs.YtekacbjnpeglhaaDoor.OpenNest
set_option linter.unusedVariables false
open Go.Joins Go.ChangeShapes Go.WideShapes Go.RowKit Go.Deep Go.Proofs.YtekacbjnpeglhaaDoor.Rowed
theorem len1 {l : List Value} (h : l.length = 1) : ∃ a, l = [a] := List.length_eq_one_iff.1 h
theorem len2 {l : List Value} (h : l.length = 2) : ∃ a b, l = [a, b] := by
  match l, h with
  | [a, b], _ => exact ⟨a, b, rfl⟩
theorem len3 {l : List Value} (h : l.length = 3) : ∃ a b c, l = [a, b, c] := by
  match l, h with
  | [a, b, c], _ => exact ⟨a, b, c, rfl⟩
theorem len4 {l : List Value} (h : l.length = 4) : ∃ a b c d, l = [a, b, c, d] := by
  match l, h with
  | [a, b, c, d], _ => exact ⟨a, b, c, d, rfl⟩
theorem len5 {l : List Value} (h : l.length = 5) : ∃ a b c d e, l = [a, b, c, d, e] := by
  match l, h with
  | [a, b, c, d, e], _ => exact ⟨a, b, c, d, e, rfl⟩
section
variable {H : Type} {enc : TypeId × Value → H} {P : Program} {w : World}
theorem one_strs {t e : TypeId} {fuel : Nat} {u : Value} {x : DataW H × List MemPlace} (ht : P.underlying t = some (.slice e)) (he : P.underlying e = some .string) (hc : P.cellsOf e = 1)
    (h : DataW.trod enc P w 0 (fun _ => true) true fuel t [u] = some x) :
    ∃ (a : Option Addr) (len cap : Nat) (l : List ByteArray), u = .slice a len cap ∧ Cells w 1 a len (l.map Value.string) ∧ l.length = len ∧ len ≤ maxLen ∧ ∀ s ∈ l, s.size ≤ maxLen := by
  rcases open_strings ht he hc h with ⟨hcs, _⟩ | ⟨x, l, c, zs, hcs, hxb, hl, hm, hz, hdat, hcell, hwz⟩
  · obtain rfl : u = .slice none 0 0 := by simpa using hcs
    exact ⟨none, 0, 0, [], rfl, Cells.nil_ _ _ _, rfl, by unfold maxLen; omega, by intro s hs; simp at hs⟩
  · obtain rfl : u = .slice (some x) l c := by simpa using hcs
    have hz' : zs.length = c := by simpa using hz
    refine ⟨some x, l, c, zs.take l, rfl, ⟨by rw [List.length_map, List.length_take]; omega, fun _ => ⟨x, rfl, fun j u hu => ?_⟩⟩, by rw [List.length_take]; omega, by omega, fun s hs => hwz s (List.mem_of_mem_take hs)⟩
    rw [List.getElem?_map] at hu
    cases hj : (zs.take l)[j]? with
    | none => rw [hj] at hu; simp at hu
    | some y =>
      rw [hj] at hu
      obtain rfl : Value.string y = u := by simpa using hu
      have hjl := (List.getElem?_eq_some_iff.1 hj).1
      rw [List.length_take] at hjl
      rw [List.getElem?_take_of_lt (by omega)] at hj
      rw [hcell j (by omega), List.getD_eq_getElem?_getD, hj]; rfl
theorem one_ints {t e : TypeId} {fuel : Nat} {u : Value} {x : DataW H × List MemPlace} (ht : P.underlying t = some (.slice e)) (he : P.underlying e = some (.int .i64)) (hc : P.cellsOf e = 1)
    (h : DataW.trod enc P w 0 (fun _ => true) true fuel t [u] = some x) :
    ∃ (a : Option Addr) (len cap : Nat) (l : List Int), u = .slice a len cap ∧ Cells w 1 a len (l.map (Value.int .i64)) ∧ l.length = len ∧ len ≤ maxLen ∧ ∀ n ∈ l, (Lit.int .i64 n).wf = true := by
  rcases open_ints ht he hc h with ⟨hcs, _⟩ | ⟨x, l, c, zs, hcs, hxb, hl, hm, hz, hdat, hcell, hwz⟩
  · obtain rfl : u = .slice none 0 0 := by simpa using hcs
    exact ⟨none, 0, 0, [], rfl, Cells.nil_ _ _ _, rfl, by unfold maxLen; omega, by intro s hs; simp at hs⟩
  · obtain rfl : u = .slice (some x) l c := by simpa using hcs
    have hz' : zs.length = c := by simpa using hz
    refine ⟨some x, l, c, zs.take l, rfl, ⟨by rw [List.length_map, List.length_take]; omega, fun _ => ⟨x, rfl, fun j u hu => ?_⟩⟩, by rw [List.length_take]; omega, by omega, fun s hs => hwz s (List.mem_of_mem_take hs)⟩
    rw [List.getElem?_map] at hu
    cases hj : (zs.take l)[j]? with
    | none => rw [hj] at hu; simp at hu
    | some y =>
      rw [hj] at hu
      obtain rfl : Value.int .i64 y = u := by simpa using hu
      have hjl := (List.getElem?_eq_some_iff.1 hj).1
      rw [List.length_take] at hjl
      rw [List.getElem?_take_of_lt (by omega)] at hj
      rw [hcell j (by omega), List.getD_eq_getElem?_getD, hj]; rfl
end
end Go.Proofs.YtekacbjnpeglhaaDoor.OpenNest

