/- Chapter 6: tables of kinds: the plain functions of the program and of the reference agree, and the laws answer true. (Q6Tab) No condition but those of each theorem. -/
import Derived.Test.YtekacbjnpeglhaaQ6Ban
import Derived.Test.YtekacbjnpeglhaaQ6Hist
import Derived.Test.YtekacbjnpeglhaaQLoop
import Derived.Test.YtekacbjnpeglhaaQAll
import Derived.Test.YtekacbjnpeglhaaPBan
import Derived.Test.YtekacbjnpeglhaaGoRBan
import Derived.Test.YtekacbjnpeglhaaGiIsKindTable
import Derived.Test.YtekacbjnpeglhaaGsL6Good
namespace Go.Proofs.Ytekacbjnpeglhaa.Q6Tab
set_option linter.unusedVariables false
set_option linter.unusedSimpArgs false
open Go.RowKit
open Go.Proofs.Ytekacbjnpeglhaa.GoP Go.Proofs.Ytekacbjnpeglhaa.PlainStamp Go.Proofs.Ytekacbjnpeglhaa.QBase Go.Proofs.Ytekacbjnpeglhaa.Q6Ban Go.Proofs.Ytekacbjnpeglhaa.Q6Hist Go.Proofs.Ytekacbjnpeglhaa.QLoop Go.Proofs.Ytekacbjnpeglhaa.QAll Go.Proofs.Ytekacbjnpeglhaa.PBan

def upB (s : List Int) (l : List Ban) (k : Nat) : Bool := upAt (okB s) code l k
def okT (s : List Int) (l : List Ban) : Bool := inB s.length 1 5 && decide (l.length ≤ 20) && okS s && allN l.length (upB s l)
theorem okT_of {s : List Int} {l : List Ban} (h : okT s l = true) : 1 ≤ s.length ∧ s.length ≤ 5 ∧ l.length ≤ 20 ∧ okS s = true ∧ ∀ b ∈ l, okB s b = true := by
  unfold okT at h
  simp only [Bool.and_eq_true, decide_eq_true_eq] at h
  have h1 := inB_of h.1.1.1
  refine ⟨by omega, by omega, h.1.1.2, h.1.2, fun b hb => ?_⟩
  obtain ⟨k, hk⟩ := List.getElem?_of_mem hb
  have := allN_iff.1 h.2 k (List.getElem?_eq_some_iff.1 hk).1
  unfold upB upAt at this
  rw [hk] at this
  simp only [Bool.and_eq_true] at this
  exact this.1
theorem hist_ok {s : List Int} {l : List Ban} {k : Nat} (hu : ∀ i, i < k → upB s l i = true) (hk : 0 < k) {r : Ban} (hr : l[k - 1]? = some r) : okB s r = true := by
  have := hu (k - 1) (by omega)
  unfold upB upAt at this
  rw [hr] at this
  simp only [Bool.and_eq_true] at this
  exact this.1
theorem isTable_eq (s : List Int) (l : List Ban) (hs : s.length ≤ 9223372036854775807) (hl : l.length ≤ 9223372036854775807) : GiIsKindTable.P s l = some (okT s l) := by
  simp only [GiIsKindTable.P, within_eq, Option.bind_some, letK, joinK, appK, iteK_if, okT]
  cases h1 : inB s.length 1 5 with
  | false => simp
  | true =>
    have hs5 := inB_of h1
    by_cases h2 : l.length ≤ 20
    · simp only [Bool.not_true, Bool.false_eq_true, if_false, show ¬ (20 < (l.length : Int)) by omega, decide_false, h2, decide_true, Bool.true_and]
      rw [all_cnt (p := fun i => match s[i]? with | some z => inB z 1 5 | none => true) (no := false)]
      · show (if okS s = true then _ else _) = _
        cases h3 : okS s with
        | false => simp
        | true =>
          simp only [if_true, Bool.true_and, GiIsKindTable.e0]
          rw [all_cntH (p := upB s l) (no := false)]
          · cases allN l.length (upB s l) <;> simp [GiIsKindTable.e1]
          · intro k nx hk hu
            obtain ⟨b, hb, hi⟩ := at_lt (l := l) (k := k) hk
            simp only [GiIsKindTable.l1, hi, Option.bind_some, unBan, isBan_eq s h3 (by omega), letK, joinK, appK, iteK_if]
            cases hok : okB s b with
            | false => exact ⟨fun _ => by simp, fun h => by rw [show upB s l k = false from upAt_bad hb hok] at h; exact absurd h (by simp)⟩
            | true =>
              by_cases hk0 : k = 0
              · subst hk0
                rw [show upB s l 0 = true from upAt_first hb hok]
                exact ⟨fun h => absurd h (by simp), fun _ => by simp⟩
              · obtain ⟨r, hr, _⟩ := at_lt (l := l) (k := k - 1) (by omega)
                have hrk := hist_ok hu (by omega) hr
                obtain ⟨c, hc, c1, c2, c3⟩ := compare_eq h3 (by omega) hrk hok
                rw [show upB s l k = decide (code r < code b) from upAt_next hb hr (by omega) hok]
                have hk1 : (0 : Int) < (k : Int) := by omega
                simp only [hk1, decide_true, if_true, Bool.not_true, Bool.false_eq_true, if_false]
                rw [idx_pred (by omega) (by omega) hr]
                simp only [Option.bind_some, hc]
                by_cases hlt : code r < code b
                · simp [hlt, show ¬ 0 ≤ c by omega]
                · simp [hlt, show 0 ≤ c by omega]
      · intro k nx hk
        obtain ⟨z, hz, hi⟩ := at_lt (l := s) (k := k) hk
        simp only [GiIsKindTable.l0, hi, Option.bind_some, within_eq, letK, appK, iteK_if, hz]
        exact ⟨fun h => by simp [h], fun h => by simp [h]⟩
    · simp [h2, show (20 < (l.length : Int)) by omega]
theorem l6Good_eq (fuel : Nat) (hf : 21 ≤ fuel) (s : List Int) (l : List Ban) (hs : s.length ≤ 9223372036854775807) (hl : l.length ≤ 9223372036854775807) : GsL6Good.P fuel s l = some (okT s l) := by
  simp only [GsL6Good.P, l1In_eq, Option.bind_some, letK, joinK, appK, iteK_if, okT]
  cases h1 : inB s.length 1 5 with
  | false => simp
  | true =>
    have hs5 := inB_of h1
    by_cases h2 : l.length ≤ 20
    · simp only [Bool.not_true, Bool.false_eq_true, if_false, show ¬ (20 < (l.length : Int)) by omega, decide_false, h2, decide_true, Bool.true_and]
      rw [all_lp (n := s.length) (p := fun i => match s[i]? with | some z => inB z 1 5 | none => true) (no := false)]
      · show (if okS s = true then _ else _) = _
        cases h3 : okS s with
        | false => simp
        | true =>
          simp only [if_true, Bool.true_and, GsL6Good.e0, letK]
          rw [all_lpH (n := l.length) (p := upB s l) (no := false)]
          · cases allN l.length (upB s l) <;> simp [GsL6Good.e1, letK]
          · intro k nx hk hu
            obtain ⟨b, hb, hi⟩ := at_lt (l := l) (k := k) hk
            have hlt0 : (k : Int) < (l.length : Int) := by omega
            simp only [GsL6Good.l1, letK, hlt0, decide_true, hi, Option.bind_some, unBan, l6Ban_eq s h3 (by omega), joinK, appK, iteK_if, if_true]
            rw [next_i (by omega)]
            cases hok : okB s b with
            | false => exact ⟨fun _ => by simp, fun h => by rw [show upB s l k = false from upAt_bad hb hok] at h; exact absurd h (by simp)⟩
            | true =>
              by_cases hk0 : k = 0
              · subst hk0
                rw [show upB s l 0 = true from upAt_first hb hok]
                exact ⟨fun h => absurd h (by simp), fun _ => by simp⟩
              · obtain ⟨r, hr, _⟩ := at_lt (l := l) (k := k - 1) (by omega)
                have hrk := hist_ok hu (by omega) hr
                have e1 := l6Code_eq h3 (by omega) hrk
                have e2 := l6Code_eq h3 (by omega) hok
                rw [show upB s l k = decide (code r < code b) from upAt_next hb hr (by omega) hok]
                have hk1 : (0 : Int) < (k : Int) := by omega
                simp only [hk1, decide_true, if_true, Bool.not_true, Bool.false_eq_true, if_false]
                rw [idx_pred (by omega) (by omega) hr]
                simp only [Option.bind_some, e1, e2]
                by_cases hlt : code r < code b
                · simp [hlt, show ¬ code b ≤ code r by omega]
                · simp [hlt, show code b ≤ code r by omega]
          · intro nx
            simp [GsL6Good.l1, letK, appK, iteK_if]
          · omega
      · intro k nx hk
        obtain ⟨z, hz, hi⟩ := at_lt (l := s) (k := k) hk
        have hlt0 : (k : Int) < (s.length : Int) := by omega
        simp only [GsL6Good.l0, letK, hlt0, decide_true, hi, Option.bind_some, l1In_eq, appK, iteK_if, hz, if_true]
        rw [next_i (by omega)]
        exact ⟨fun h => by simp [h], fun h => by simp [h]⟩
      · intro nx
        simp [GsL6Good.l0, letK, appK, iteK_if]
      · omega
    · simp [h2, show (20 < (l.length : Int)) by omega]
end Go.Proofs.Ytekacbjnpeglhaa.Q6Tab
