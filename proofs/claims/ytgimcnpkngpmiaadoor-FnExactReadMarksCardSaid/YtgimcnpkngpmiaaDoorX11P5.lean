/- Texts on which the proofs of several laws stand, one behind the other (5 of 9). No condition of their own. -/
import Derived.Test.YtgimcnpkngpmiaaDoorX11P4
import Derived.Test.YtgimcnpkngpmiaaDoorX11P3
/- The laws' helpers on Postmark and on slices of it as plain functions: copied, equal, their bulk. No condition. -/
namespace Go.Proofs.YtgimcnpkngpmiaaDoor.QHPostmarkE
set_option linter.unusedVariables false
set_option linter.unusedSimpArgs false
open Go.RowKit
open Go.Proofs.YtgimcnpkngpmiaaDoor.GoP Go.Proofs.YtgimcnpkngpmiaaDoor.QBase Go.Proofs.YtgimcnpkngpmiaaDoor.QLoop Go.Proofs.YtgimcnpkngpmiaaDoor.PPostmark

theorem toOne (s : Postmark) : GlToPostmark.P s = some s := by cases s; rfl
theorem eqOne (s : Postmark) : GlEqPostmark.P s s = some true := by
  obtain ⟨x0, x1, x2, x3, x4, x5⟩ := s
  simp [GlEqPostmark.P, unPostmark, letK, joinK, appK, iteK_if]
theorem toS (l : List Postmark) (hl : l.length ≤ 1048576) : GlToPostmarkS.P l = some l := by
  simp only [GlToPostmarkS.P, letK]
  rw [guardK_pos (by omega)]
  refine cnt_is l (fun k s => s = l.take k ++ List.replicate (l.length - k) (Postmark.mk 0 ByteArray.empty 0 0 0 ByteArray.empty)) ?_ ?_ _ (by simp)
  · intro k s nx hk hI hn
    obtain ⟨x, hx, hi⟩ := at_lt (l := l) (k := k) hk
    have hlen : s.length = l.length := by rw [hI]; simp; omega
    obtain ⟨z, hz, hj⟩ := at_lt (l := s) (k := k) (by omega)
    simp only [GlToPostmarkS.l0, hi, hj, toOne, Option.bind_some, unPostmark, letK, appK]
    refine hn _ ?_
    rw [hI, take_next hx, List.set_append_right _ _ (by simp; omega)]
    have hr : l.length - k = (l.length - (k + 1)) + 1 := by omega
    rw [hr, List.replicate_succ, List.append_assoc]
    simp [show k - min k l.length = 0 by omega]
  · intro s hI
    rw [hI]; simp [GlToPostmarkS.e0, letK]
theorem eqS (l : List Postmark) : GlEqPostmarkS.P l l = some true := by
  simp only [GlEqPostmarkS.P, letK, iteK_if]
  rw [if_neg (by simp)]
  refine cnt_is true (fun _ _ => True) ?_ (fun s _ => rfl) () trivial
  intro k s nx hk _ hn
  obtain ⟨x, hx, hi⟩ := at_lt (l := l) (k := k) hk
  simp only [GlEqPostmarkS.l0, hi, Option.bind_some, unPostmark, eqOne, letK, appK, iteK_if]
  exact hn () trivial
theorem fits_max {s : Postmark} (h : s.fits) : s.town.size ≤ 9223372036854775807 ∧ s.lost.size ≤ 9223372036854775807 := by
  obtain ⟨x0, x1, x2, x3, x4, x5⟩ := s
  obtain ⟨hx0, hx1, hx2, hx3, hx4, hx5⟩ := h
  unfold maxLen at hx1 hx5
  exact ⟨hx1, hx5⟩
theorem szOne (s : Postmark) (left : Int) (h : s.fits) (h0 : 0 ≤ left) (h1 : left ≤ 1048576) : ∃ v, GlSzPostmark.P s left = some v ∧ v ≤ left := by
  have hm := fits_max h
  simp only [GlSzPostmark.P, unPostmark, letK, iteK_if]
  rw [wrap_in (x := left - (s.town.size : Int)) (by omega) (by omega)]
  by_cases hd0 : left - (s.town.size : Int) < 0
  · exact ⟨-1, by rw [if_pos (by simpa using hd0)], by omega⟩
  rw [if_neg (by simpa using hd0)]
  rw [wrap_in (x := left - (s.town.size : Int) - (s.lost.size : Int)) (by omega) (by omega)]
  by_cases hd1 : left - (s.town.size : Int) - (s.lost.size : Int) < 0
  · exact ⟨-1, by rw [if_pos (by simpa using hd1)], by omega⟩
  rw [if_neg (by simpa using hd1)]
  exact ⟨_, rfl, by omega⟩
theorem szS (l : List Postmark) (hf : ∀ s ∈ l, s.fits) (hl : l.length ≤ 9223372036854775807) : ∃ v, GlSzPostmarkS.P l 1048576 = some v ∧ (0 ≤ v → l.length ≤ 1048576) := by
  simp only [GlSzPostmarkS.P, letK, iteK_if]
  rw [wrap_in (by omega) (by omega)]
  by_cases h : (1048576 : Int) - (l.length : Int) < 0
  · exact ⟨-1, by rw [if_pos (by simp; omega)], by omega⟩
  · rw [if_neg (by simp; omega)]
    refine cnt_ex (n := l.length) (Q := fun v => 0 ≤ v → l.length ≤ 1048576) (fun _ (s : Int) => 0 ≤ s ∧ s ≤ 1048576) ?_ ?_ l.length 0 _ (by omega) ⟨by omega, by omega⟩
    · intro k s nx hk hI hn
      obtain ⟨x, hx, hi⟩ := at_lt (l := l) (k := k) hk
      simp only [GlSzPostmarkS.l0, hi, Option.bind_some, unPostmark, letK, appK, iteK_if]
      obtain ⟨v, hv, hv1⟩ := szOne x s (hf x (List.mem_of_getElem? hx)) hI.1 hI.2
      have hv' : GlSzPostmark.P ⟨x.id, x.town, x.kind_, x.first, x.last, x.lost⟩ s = some v := hv
      rw [hv']
      simp only [Option.bind_some]
      by_cases hb : v < 0
      · rw [if_pos (by simpa using hb)]; exact ⟨-1, by simp, by omega⟩
      · rw [if_neg (by simpa using hb)]
        exact hn _ ⟨by omega, by omega⟩
    · intro s hI; exact ⟨s, rfl, fun _ => by omega⟩
end Go.Proofs.YtgimcnpkngpmiaaDoor.QHPostmarkE

