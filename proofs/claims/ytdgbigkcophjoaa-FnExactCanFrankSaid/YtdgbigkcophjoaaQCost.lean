/- The table of the fewest stamps by value, the program's: filled right. Condition: faces from 0 to 9999. -/
import Derived.Test.YtdgbigkcophjoaaQStamp
import Derived.Test.YtdgbigkcophjoaaPlainCost
import Derived.Test.YtdgbigkcophjoaaGiFewestByValue
namespace Go.Proofs.Ytdgbigkcophjoaa.QCost
set_option linter.unusedVariables false
set_option linter.unusedSimpArgs false
open Go.RowKit
open Go.Proofs.Ytdgbigkcophjoaa.GoP Go.Proofs.Ytdgbigkcophjoaa.PlainStamp Go.Proofs.Ytdgbigkcophjoaa.PlainCost Go.Proofs.Ytdgbigkcophjoaa.QBase Go.Proofs.Ytdgbigkcophjoaa.QLoop

theorem lp_ex {σ ρ : Type} {f : σ → (σ → Option ρ) → (σ → Option ρ) → Option ρ} {fin : σ → Option ρ} {Q : ρ → Prop} {n : Nat} (I : Nat → σ → Prop)
    (step : ∀ k s nx, k < n → I k s → (∀ s', I (k + 1) s' → ∃ r, nx s' = some r ∧ Q r) → ∃ r, f s nx fin = some r ∧ Q r) (done : ∀ s nx, I n s → ∃ r, f s nx fin = some r ∧ Q r) :
    ∀ fuel k s, k ≤ n → n - k < fuel → I k s → ∃ r, loopK f fuel s fin = some r ∧ Q r := by
  intro fuel
  induction fuel with
  | zero => intro k s hk hf; omega
  | succ m ih =>
    intro k s hk hf hI
    show ∃ r, f s _ fin = some r ∧ Q r
    by_cases he : k = n
    · subst he; exact done s _ hI
    · exact step k s _ (by omega) hI (fun s' h' => ih (k + 1) s' (by omega) (by omega) h')
/-- a table that is right up to v -/
def Tb (cap : Nat) (y : Int) (l : List St) (n v : Nat) (tl : List Int) : Prop := tl.length = n ∧ ∀ u, u ≤ v → tl[u]? = some ((cost cap y l u : Nat) : Int)
/-- right up to k, and t stands behind -/
def Rw (cap : Nat) (y : Int) (l : List St) (n k : Nat) (t : Nat) (s : List Int) : Prop := Tb cap y l n k s ∧ s[k + 1]? = some (t : Int)
theorem Rw.set {cap : Nat} {y : Int} {l : List St} {n k t : Nat} {s : List Int} (h : Rw cap y l n k t s) (hk : k + 1 < n) (t2 : Nat) : Rw cap y l n k t2 (s.set (k + 1) (t2 : Int)) :=
  ⟨⟨by rw [List.length_set]; exact h.1.1, fun u hu => by rw [List.getElem?_set_ne (by omega)]; exact h.1.2 u hu⟩, List.getElem?_set_self (by rw [h.1.1]; exact hk)⟩
theorem Tb.start {cap : Nat} {y : Int} {l : List St} {n k : Nat} {s : List Int} (h : Tb cap y l n k s) (hk : k + 1 < n) (t2 : Nat) : Rw cap y l n k t2 (s.set (k + 1) (t2 : Int)) :=
  ⟨⟨by rw [List.length_set]; exact h.1, fun u hu => by rw [List.getElem?_set_ne (by omega)]; exact h.2 u hu⟩, List.getElem?_set_self (by rw [h.1]; exact hk)⟩
theorem Rw.next {cap : Nat} {y : Int} {l : List St} {n k : Nat} {s : List Int} (h : Rw cap y l n k (sofar (cost cap y l) cap y (k + 1) l l.length) s) : Tb cap y l n (k + 1) s := by
  refine ⟨h.1.1, fun u hu => ?_⟩
  by_cases he : u = k + 1
  · subst he; rw [h.2, sofar_all, cost_succ]
  · exact h.1.2 u (by omega)
def Faces (l : List St) : Prop := ∀ s ∈ l, 0 ≤ s.face ∧ s.face ≤ 9999
theorem fewest_eq (l : List St) (y : Int) (m fuel : Nat) (hok : Faces l) (hm : m ≤ 1048576) (hf : m < fuel) : ∃ tl, GiFewestByValue.P fuel l y (m : Int) = some tl ∧ Tb 12000 y l (m + 1) m tl := by
  simp only [GiFewestByValue.P, letK]
  rw [wrap_in (by omega) (by omega), guardK_pos (by omega), show ((m : Int) + 1).toNat = m + 1 by omega]
  refine lp_ex (n := m) (Q := Tb 12000 y l (m + 1) m) (fun k (s : List Int × Int) => s.2 = ((k + 1 : Nat) : Int) ∧ Tb 12000 y l (m + 1) k s.1) ?_ ?_ fuel 0 _ (by omega) (by omega) ⟨rfl, by simp, fun u hu => ?_⟩
  · rintro k ⟨tl, v⟩ nx hk ⟨h1, h2⟩ hn
    dsimp only at h1 h2
    subst h1
    obtain ⟨x, hx, hi⟩ := at_lt (l := tl) (k := k + 1) (by rw [h2.1]; omega)
    simp only [GiFewestByValue.l0, unp2, letK, iteK_if]
    rw [if_pos (decide_eq_true (by omega)), hi, Int.toNat_natCast]
    simp only [Option.bind_some]
    refine cnt_ex (n := l.length) (fun j s => Rw 12000 y l (m + 1) k (sofar (cost 12000 y l) 12000 y (k + 1) l j) s) ?_ ?_ l.length 0 _ (by omega) (h2.start (by omega) 12000)
    · intro j s nx2 hj hI hn2
      obtain ⟨q, hq, hiq⟩ := at_lt (l := l) (k := j) hj
      have hfq := hok q (List.mem_of_getElem? hq)
      have hle := sofar_le (cost 12000 y l) 12000 y (k + 1) l j
      simp only [GiFewestByValue.l1, hiq, Option.bind_some, unStamp, letK, joinK, appK, iteK_if]
      by_cases hy : q.year ≤ y
      · by_cases hc : q.face ≤ ((k + 1 : Nat) : Int)
        · obtain ⟨g, hg⟩ : ∃ g : Nat, q.face = g := ⟨q.face.toNat, by omega⟩
          have hiv : idx s ((k + 1 : Nat) : Int) = some ((sofar (cost 12000 y l) 12000 y (k + 1) l j : Nat) : Int) := by rw [idx_nat, hI.2]
          simp only [decide_eq_true hy, decide_eq_true hc, if_true, hiv, Option.bind_some]
          rw [wrap_in (by omega) (by omega), show ((k + 1 : Nat) : Int) - q.face = ((k + 1 - g : Nat) : Int) by omega, idx_nat, Int.toNat_natCast]
          by_cases h0 : g = 0
          · subst h0
            rw [Nat.sub_zero, hI.2]
            simp only [Option.bind_some]
            rw [wrap_in (by omega) (by omega)]
            refine hn2 _ ?_
            rw [sofar_not hq (use_no (by omega)), show min ((sofar (cost 12000 y l) 12000 y (k + 1) l j : Nat) : Int) (((sofar (cost 12000 y l) 12000 y (k + 1) l j : Nat) : Int) + 1) = ((sofar (cost 12000 y l) 12000 y (k + 1) l j : Nat) : Int) by omega]
            exact hI.set (by omega) _
          · have hcl := cost_le 12000 y l (k + 1 - g)
            rw [hI.1.2 (k + 1 - g) (by omega)]
            simp only [Option.bind_some]
            rw [wrap_in (by omega) (by omega)]
            refine hn2 _ ?_
            rw [sofar_use hq (use_yes hy (by omega) hc), show q.face.toNat = g by omega]
            have e : min ((sofar (cost 12000 y l) 12000 y (k + 1) l j : Nat) : Int) (((cost 12000 y l (k + 1 - g) : Nat) : Int) + 1) = ((min (sofar (cost 12000 y l) 12000 y (k + 1) l j) (cost 12000 y l (k + 1 - g) + 1) : Nat) : Int) := by omega
            rw [e]
            exact hI.set (by omega) _
        · simp only [decide_eq_true hy, decide_eq_false hc, if_true, Bool.false_eq_true, if_false]
          refine hn2 _ ?_
          rw [sofar_not hq (use_no (by omega))]; exact hI
      · simp only [decide_eq_false hy, Bool.false_eq_true, if_false]
        refine hn2 _ ?_
        rw [sofar_not hq (use_no (by omega))]; exact hI
    · intro s hI
      simp only [GiFewestByValue.e1, letK, appK]
      rw [wrap_in (by omega) (by omega)]
      exact hn _ ⟨by dsimp only; omega, hI.next⟩
  · rintro ⟨tl, v⟩ nx ⟨h1, h2⟩
    dsimp only at h1 h2
    subst h1
    refine ⟨tl, ?_, h2⟩
    simp only [GiFewestByValue.l0, GiFewestByValue.e0, unp2, letK, appK, iteK_if]
    rw [if_neg (by rw [decide_eq_false (by omega)]; simp)]
  · obtain rfl : u = 0 := by omega
    simp [cost_zero]
theorem faces_of {l : List St} (h : QStamp.okS l = true) : Faces l := fun s hs => (okSt_yes (upL_mem h hs)).2.1
end Go.Proofs.Ytdgbigkcophjoaa.QCost
