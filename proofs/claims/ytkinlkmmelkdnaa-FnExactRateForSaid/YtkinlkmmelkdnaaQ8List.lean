/- Chapter 8: rates: the plain functions of the program and of the reference agree, and the laws answer true. (Q8List) No condition but those of each theorem. -/
import Derived.Test.YtkinlkmmelkdnaaQRiseL
import Derived.Test.YtkinlkmmelkdnaaQOrd
import Derived.Test.YtkinlkmmelkdnaaQ8Rate
import Derived.Test.YtkinlkmmelkdnaaQLoop
import Derived.Test.YtkinlkmmelkdnaaPRate
import Derived.Test.YtkinlkmmelkdnaaGiAreRates
import Derived.Test.YtkinlkmmelkdnaaGsL8Good
namespace Go.Proofs.Ytkinlkmmelkdnaa.Q8List
set_option linter.unusedVariables false
set_option linter.unusedSimpArgs false
open Go.RowKit
open Go.Proofs.Ytkinlkmmelkdnaa.GoP Go.Proofs.Ytkinlkmmelkdnaa.PlainStamp Go.Proofs.Ytkinlkmmelkdnaa.QBase Go.Proofs.Ytkinlkmmelkdnaa.QRiseL Go.Proofs.Ytkinlkmmelkdnaa.QOrd Go.Proofs.Ytkinlkmmelkdnaa.Q8Rate Go.Proofs.Ytkinlkmmelkdnaa.QLoop Go.Proofs.Ytkinlkmmelkdnaa.PRate

def okRs (l : List Rate) : Bool := riseL 16 okR linkR l
theorem areRates_eq (l : List Rate) (hl : l.length ≤ 9223372036854775807) : GiAreRates.P l = some (okRs l) := by
  simp only [GiAreRates.P, letK, iteK_if]
  by_cases h12 : l.length ≤ 16
  · rw [if_neg (by simp; omega), rise_loop (ok := okR) (lt := linkR) (no := false)]
    · unfold okRs riseL; cases riseTo okR linkR l l.length <;> simp [h12, GiAreRates.e0]
    · intro k nx s hs
      have hi : idx l (k : Int) = some s := by rw [idx_nat, hs]
      have hk : k < l.length := (List.getElem?_eq_some_iff.1 hs).1
      simp only [GiAreRates.l0, hi, Option.bind_some, unRate, isRate_eq, letK, joinK, appK, iteK_if]
      refine ⟨fun h => by simp [h], fun h => ⟨fun h0 => by subst h0; simp [h], fun h0 r hr => ?_⟩⟩
      rw [idx_pred h0 (by omega) hr]
      have hk0 : (0 : Int) < (k : Int) := by omega
      have hk1 : ¬ k = 0 := by omega
      exact ⟨fun hlt => by simp [h, hk0, hk1, canFollow_eq, hlt], fun hge => by simp [h, hk0, hk1, canFollow_eq, hge]⟩
  · rw [if_pos (by simp; omega)]; unfold okRs riseL; simp [h12]
theorem l8Good_eq {fuel : Nat} (l : List Rate) (hl : l.length ≤ 9223372036854775807) (hf : 17 < fuel) : GsL8Good.P fuel l = some (okRs l) := by
  simp only [GsL8Good.P]
  have key := rise_lp (ok := okR) (lt := linkR) (l := l) (m := 16) (no := false) (yes := some true) (f := GsL8Good.l0 l) (fin := GsL8Good.e0 l) ?_ ?_ ?_ fuel 0 (by omega) (by omega) (by omega) rfl
  · rw [show ((0 : Nat) : Int) = 0 from rfl] at key
    rw [key]; unfold okRs; cases riseL 16 okR linkR l <;> rfl
  · intro k nx hs h1 h2
    simp only [GsL8Good.l0, letK, joinK, appK, iteK_if]
    by_cases hk : l.length ≤ k
    · have : ¬ ((k : Int) < (l.length : Int)) := by omega
      simp [this]
    · have h3 : ((k : Int) < (l.length : Int)) := by omega
      have h4 : ¬ ((k : Int) ≤ 16) := by omega
      simp [h3, h4]
  · intro k
    simp only [GsL8Good.e0, letK]
    by_cases h : l.length ≤ 16
    · rw [if_pos h]; simp; omega
    · rw [if_neg h]; simp; omega
  · intro k nx s hk16 hs
    have hi : idx l (k : Int) = some s := by rw [idx_nat, hs]
    have hk : k < l.length := (List.getElem?_eq_some_iff.1 hs).1
    have h1 : ((k : Int) < (l.length : Int)) := by omega
    have h2 : (k : Int) ≤ 16 := by omega
    have hw : IntKind.i64.wrap ((k : Int) + 1) = ((k + 1 : Nat) : Int) := by rw [wrap_in (by omega) (by omega)]; omega
    simp only [GsL8Good.l0, letK, joinK, appK, iteK_if, decide_eq_true h1, decide_eq_true h2, if_true, hi, Option.bind_some, unRate, l8One_eq, hw]
    refine ⟨fun h => by simp [h], fun h => ⟨fun h0 => by subst h0; simp [h], fun h0 r hr hokr => ?_⟩⟩
    rw [idx_pred h0 (by omega) hr]
    have hk0 : (0 : Int) < (k : Int) := by omega
    have hk1 : ¬ k = 0 := by omega
    simp only [Option.bind_some, l8Code_eq h, l8Code_eq hokr, link_code hokr h]
    have he : ∀ x : Rate, Rate.mk x.zone x.grams x.from_ x.until_ x.cents = x := fun x => rfl
    simp only [h, decide_eq_true hk0, Bool.not_true, Bool.false_eq_true, if_false, if_true]
    constructor
    · intro hlt
      simp only [Bool.and_eq_true, decide_eq_true_eq, Bool.not_eq_true'] at hlt
      obtain ⟨c1, c2⟩ := hlt
      have : ¬ (codeR s ≤ codeR r) := by omega
      by_cases e1 : r.zone = s.zone
      · by_cases e2 : r.grams = s.grams
        · have e3 : ¬ (s.from_ ≤ r.until_) := by simpa [e1, e2] using c2
          simp [this, e1, e2, e3]
        · simp [this, e1, e2]
      · simp [this, e1]
    · intro hge
      by_cases c1 : codeR r < codeR s
      · have : ¬ (codeR s ≤ codeR r) := by omega
        simp only [decide_eq_true c1, Bool.true_and, Bool.not_eq_false', Bool.and_eq_true, decide_eq_true_eq] at hge
        simp [this, hge.1.1, hge.1.2, hge.2]
      · have : codeR s ≤ codeR r := by omega
        simp [this]
theorem rs_mem {l : List Rate} (h : okRs l = true) {x : Rate} (hx : x ∈ l) : okR x = true := riseL_mem h hx
end Go.Proofs.Ytkinlkmmelkdnaa.Q8List
