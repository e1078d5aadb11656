/- CanFrank: the law's plain function answers true. No condition. -/
import Derived.Test.YtdgbigkcophjoaaQCost
import Derived.Test.YtdgbigkcophjoaaPlainFrank
import Derived.Test.YtdgbigkcophjoaaGlFnExactCanFrank
namespace Go.Proofs.Ytdgbigkcophjoaa.QFrank
set_option linter.unusedVariables false
set_option linter.unusedSimpArgs false
open Go.RowKit
open Go.Proofs.Ytdgbigkcophjoaa.GoP Go.Proofs.Ytdgbigkcophjoaa.PlainStamp Go.Proofs.Ytdgbigkcophjoaa.PlainCost Go.Proofs.Ytdgbigkcophjoaa.PlainFrank Go.Proofs.Ytdgbigkcophjoaa.QBase Go.Proofs.Ytdgbigkcophjoaa.QLoop Go.Proofs.Ytdgbigkcophjoaa.QInt Go.Proofs.Ytdgbigkcophjoaa.QStamp Go.Proofs.Ytdgbigkcophjoaa.QCost

def frRes (l : List St) (m : Int) : List Int × Bool := if okS l && inB m 1 500 then (rates l (m.toNat + 1), true) else ([], false)
theorem frRes_len (l : List St) (m : Int) : (frRes l m).1.length ≤ 1048576 := by
  unfold frRes; split
  · rename_i h
    simp only [Bool.and_eq_true] at h
    have := inB_of h.2
    have := rates_len l (m.toNat + 1)
    simp only; omega
  · simp
set_option maxRecDepth 100000 in
theorem impl_eq (l : List St) (m : Int) (fuel : Nat) (hf : 1048577 ≤ fuel) : GiCanFrank.P fuel l m = some (frRes l m) := by
  simp only [GiCanFrank.P, areStamps_eq, within_eq, Option.bind_some, letK, joinK, appK, iteK_if, frRes]
  cases hok : okS l with
  | false => simp
  | true =>
    cases hm : inB m 1 500 with
    | false => simp
    | true =>
      have hb := inB_of hm
      obtain ⟨n, rfl⟩ : ∃ n : Nat, m = n := ⟨m.toNat, by omega⟩
      obtain ⟨tl, ht, hT⟩ := fewest_eq l 2100 n fuel (faces_of hok) (by omega) (by omega)
      simp only [ht, Bool.not_true, Bool.false_eq_true, if_false, Bool.and_self, if_true, Option.bind_some, Int.toNat_natCast]
      obtain ⟨r, hr, rfl⟩ := lp_ex (n := n) (f := GiCanFrank.l0 (n : Int) tl) (fin := GiCanFrank.e0) (Q := fun r => r = (rates l (n + 1), true)) (fun k (s : List Int × Int) => s.1 = rates l (k + 1) ∧ s.2 = ((k + 1 : Nat) : Int)) (by
        rintro k ⟨o, v⟩ nx hk ⟨h1, h2⟩ hn
        dsimp only at h1 h2
        subst h1; subst h2
        have hl := rates_len l (k + 1)
        have hi : idx tl ((k + 1 : Nat) : Int) = some ((cost 12000 2100 l (k + 1) : Nat) : Int) := by rw [idx_nat, hT.2 (k + 1) (by omega)]
        simp only [GiCanFrank.l0, unp2, letK, appK, iteK_if]
        rw [if_pos (decide_eq_true (by omega)), hi]
        simp only [Option.bind_some]
        rw [wrap_in (by omega) (by omega)]
        by_cases hg : cost 12000 2100 l (k + 1) < 12000
        · rw [if_pos (decide_eq_true (by omega)), guardK_pos (by omega)]
          refine hn _ ⟨?_, by dsimp only; omega⟩
          exact (rates_yes (v := k + 1) (by omega) (by unfold good; exact decide_eq_true hg)).symm
        · rw [if_neg (by rw [decide_eq_false (by omega)]; simp)]
          refine hn _ ⟨?_, by dsimp only; omega⟩
          exact (rates_no (v := k + 1) (by unfold good; exact decide_eq_false hg)).symm) (by
        rintro ⟨o, v⟩ nx ⟨h1, h2⟩
        dsimp only at h1 h2
        subst h1; subst h2
        refine ⟨_, ?_, rfl⟩
        simp only [GiCanFrank.l0, GiCanFrank.e0, unp2, letK, appK, iteK_if]
        rw [if_neg (by rw [decide_eq_false (by omega)]; simp)]) fuel 0 (([] : List Int), 1) (by omega) (by omega) ⟨(rates_one l).symm, rfl⟩
      exact hr
set_option maxRecDepth 100000 in
theorem spec_eq (l : List St) (m : Int) (fuel : Nat) (hf : 1048577 ≤ fuel) (hz : l.length ≤ 9223372036854775807) : GsCanFrank.P fuel l m = some (frRes l m) := by
  simp only [GsCanFrank.P, l2Stamps_eq l hz, l1In_eq, Option.bind_some, letK, joinK, appK, iteK_if, frRes]
  cases hok : okS l with
  | false => simp
  | true =>
    cases hm : inB m 1 500 with
    | false => simp
    | true =>
      have hb := inB_of hm
      obtain ⟨n, rfl⟩ : ∃ n : Nat, m = n := ⟨m.toNat, by omega⟩
      simp only [Bool.not_true, Bool.false_eq_true, if_false, Bool.and_self, if_true, Int.toNat_natCast]
      rw [wrap_in (by omega) (by omega), guardK_pos (by omega), show ((n : Int) + 1).toNat = n + 1 by omega]
      have h00 : idx (List.replicate (n + 1) false) 0 = some false := by simp [idx]
      rw [h00]
      simp only [Option.bind_some]
      obtain ⟨r, hr, rfl⟩ := lp_ex (n := n) (f := GsCanFrank.l0 l (n : Int)) (fin := GsCanFrank.e0) (Q := fun r => r = (rates l (n + 1), true)) (fun k (s : List Int × List Bool × Int) => s.1 = rates l (k + 1) ∧ (s.2.1.length = n + 1 ∧ ∀ u, u < n + 1 → s.2.1[u]? = some (tbl l (k + 1) 0 u)) ∧ s.2.2 = ((k + 1 : Nat) : Int)) (by
        rintro k ⟨o, c, v⟩ nx hk ⟨h1, ⟨h2, h3⟩, h4⟩ hn
        dsimp only at h1 h2 h3 h4
        subst h1; subst h4
        have hl := rates_len l (k + 1)
        simp only [GsCanFrank.l0, unp3, letK, iteK_if]
        rw [if_pos (decide_eq_true (by omega))]
        refine cnt_ex (n := l.length) (fun j (s : List Bool) => s.length = n + 1 ∧ ∀ u, u < n + 1 → s[u]? = some (tbl l (k + 1) j u)) ?_ ?_ l.length 0 _ (by omega) ⟨h2, h3⟩
        · intro j s nx2 hj hI hn2
          obtain ⟨q, hq, hiq⟩ := at_lt (l := l) (k := j) hj
          have hfq := okSt_yes (upL_mem hok (List.mem_of_getElem? hq))
          simp only [GsCanFrank.l1, hiq, Option.bind_some, unStamp, letK, joinK, appK, iteK_if]
          by_cases h0 : 0 < q.face
          · by_cases hc : q.face ≤ ((k + 1 : Nat) : Int)
            · obtain ⟨g, hg⟩ : ∃ g : Nat, q.face = g := ⟨q.face.toNat, by omega⟩
              simp only [decide_eq_true h0, decide_eq_true hc, if_true]
              rw [wrap_in (by omega) (by omega), show ((k + 1 : Nat) : Int) - q.face = ((k + 1 - g : Nat) : Int) by omega, idx_nat, hI.2 _ (by omega), tbl_below (by omega), idx_nat, hI.2 _ (by omega), Int.toNat_natCast]
              simp only [Option.bind_some]
              have hu : use 2100 (k + 1) q = true := use_yes (by omega) h0 hc
              cases hgd : good l (k + 1 - g) with
              | true =>
                rw [if_pos rfl]
                have hh : (use 2100 (k + 1) q && good l (k + 1 - q.face.toNat)) = true := by rw [hu, show q.face.toNat = g by omega, hgd]; rfl
                refine hn2 _ ⟨by rw [List.length_set]; exact hI.1, fun u hu2 => ?_⟩
                rw [← tbl_hit hq hh u]
                by_cases he : u = k + 1
                · subst he; rw [if_pos rfl, List.getElem?_set_self (by rw [hI.1]; omega)]
                · rw [if_neg he, List.getElem?_set_ne (by omega)]; exact hI.2 u hu2
              | false =>
                rw [if_neg (by simp)]
                have hh : (use 2100 (k + 1) q && good l (k + 1 - q.face.toNat)) = false := by rw [hu, show q.face.toNat = g by omega, hgd]; rfl
                exact hn2 _ ⟨hI.1, fun u hu2 => by rw [← tbl_miss hq hh u]; exact hI.2 u hu2⟩
            · simp only [decide_eq_true h0, decide_eq_false hc, if_true, Bool.false_eq_true, if_false]
              have hh : (use 2100 (k + 1) q && good l (k + 1 - q.face.toNat)) = false := by rw [use_no (by omega)]; rfl
              exact hn2 _ ⟨hI.1, fun u hu2 => by rw [← tbl_miss hq hh u]; exact hI.2 u hu2⟩
          · simp only [decide_eq_false h0, Bool.false_eq_true, if_false]
            have hh : (use 2100 (k + 1) q && good l (k + 1 - q.face.toNat)) = false := by rw [use_no (by omega)]; rfl
            exact hn2 _ ⟨hI.1, fun u hu2 => by rw [← tbl_miss hq hh u]; exact hI.2 u hu2⟩
        · intro s hI
          simp only [GsCanFrank.e1, letK, appK, iteK_if]
          have hnx : ∀ u, u < n + 1 → s[u]? = some (tbl l (k + 1 + 1) 0 u) := fun u hu => by rw [← tbl_next l (by omega) (by omega) u]; exact hI.2 u hu
          rw [idx_nat, hnx _ (by omega), tbl_below (by omega)]
          simp only [Option.bind_some]
          rw [wrap_in (by omega) (by omega)]
          cases hg : good l (k + 1) with
          | true =>
            rw [if_pos rfl, guardK_pos (by omega)]
            exact hn _ ⟨(rates_yes (by omega) hg).symm, ⟨hI.1, hnx⟩, by dsimp only; omega⟩
          | false =>
            rw [if_neg (by simp)]
            exact hn _ ⟨(rates_no hg).symm, ⟨hI.1, hnx⟩, by dsimp only; omega⟩) (by
        rintro ⟨o, c, v⟩ nx ⟨h1, _, h4⟩
        dsimp only at h1 h4
        subst h1; subst h4
        refine ⟨_, ?_, rfl⟩
        simp only [GsCanFrank.l0, GsCanFrank.e0, unp3, letK, appK, iteK_if]
        rw [if_neg (by rw [decide_eq_false (by omega)]; simp)]) fuel 0 (([] : List Int), (List.replicate (n + 1) false).set 0 true, 1) (by omega) (by omega) ⟨(rates_one l).symm, ⟨by simp, fun u hu => by
          rw [← tbl_start l u]
          cases u with
          | zero => simp
          | succ u => rw [List.getElem?_set_ne (by omega), List.getElem?_replicate, if_pos hu]; simp⟩, rfl⟩
      exact hr
theorem law_frank (l : List St) (m : Int) (hl : l.length ≤ 9223372036854775807) : GlFnExactCanFrank.P 1048577 l m = some true := by
  simp only [GlFnExactCanFrank.P, szS l hl, Option.bind_some, letK, iteK_if]
  by_cases hb : l.length ≤ 1048576
  · rw [if_pos hb]
    have h0 : ¬ ((1048576 : Int) - (l.length : Int) < 0) := by omega
    obtain ⟨⟨a, b⟩, hr⟩ : ∃ x, x = frRes l m := ⟨_, rfl⟩
    have hlen : a.length ≤ 1099511627776 := by have := frRes_len l m; rw [← hr] at this; dsimp only at this; omega
    obtain ⟨v2, l2, hk, hv2⟩ := markS l hb
    have hv3 : ¬ v2 < 0 := by omega
    have hv4 : ¬ (a.length : Int) + 1 < 0 := by omega
    simp [h0, toS l hb, spec_eq l m 1048577 (by omega) hl, impl_eq l m 1048577 (by omega), ← hr, bind2, joinK, appK, iteK_if, eqS, eqI, hk, hv3, markI a hlen, heldI a.length hlen, hv4]
  · rw [if_neg hb]; rfl
end Go.Proofs.Ytdgbigkcophjoaa.QFrank
