/- The laws' helpers on Shade and on slices of it as plain functions: copied, equal, their bulk. No condition. -/
import Derived.Test.YtpbbechgpgnpbaaQLoop
import Derived.Test.YtpbbechgpgnpbaaGlToShadeS
import Derived.Test.YtpbbechgpgnpbaaGlEqShadeS
import Derived.Test.YtpbbechgpgnpbaaGlSzShadeS
namespace Go.Proofs.Ytpbbechgpgnpbaa.QHShadeE
set_option linter.unusedVariables false
set_option linter.unusedSimpArgs false
open Go.RowKit
open Go.Proofs.Ytpbbechgpgnpbaa.GoP Go.Proofs.Ytpbbechgpgnpbaa.QBase Go.Proofs.Ytpbbechgpgnpbaa.QLoop Go.Proofs.Ytpbbechgpgnpbaa.PShade

theorem toOne (s : Shade) : GlToShade.P s = some s := by cases s; rfl
theorem eqOne (s : Shade) : GlEqShade.P s s = some true := by
  obtain ⟨x0, x1, x2, x3, x4⟩ := s
  simp [GlEqShade.P, unShade, letK, joinK, appK, iteK_if]
theorem toS (l : List Shade) (hl : l.length ≤ 1048576) : GlToShadeS.P l = some l := by
  simp only [GlToShadeS.P, letK]
  rw [guardK_pos (by omega)]
  refine cnt_is l (fun k s => s = l.take k ++ List.replicate (l.length - k) (Shade.mk ByteArray.empty 0 0 0 0)) ?_ ?_ _ (by simp)
  · intro k s nx hk hI hn
    obtain ⟨x, hx, hi⟩ := at_lt (l := l) (k := k) hk
    have hlen : s.length = l.length := by rw [hI]; simp; omega
    obtain ⟨z, hz, hj⟩ := at_lt (l := s) (k := k) (by omega)
    simp only [GlToShadeS.l0, hi, hj, toOne, Option.bind_some, unShade, letK, appK]
    refine hn _ ?_
    rw [hI, take_next hx, List.set_append_right _ _ (by simp; omega)]
    have hr : l.length - k = (l.length - (k + 1)) + 1 := by omega
    rw [hr, List.replicate_succ, List.append_assoc]
    simp [show k - min k l.length = 0 by omega]
  · intro s hI
    rw [hI]; simp [GlToShadeS.e0, letK]
theorem eqS (l : List Shade) : GlEqShadeS.P l l = some true := by
  simp only [GlEqShadeS.P, letK, iteK_if]
  rw [if_neg (by simp)]
  refine cnt_is true (fun _ _ => True) ?_ (fun s _ => rfl) () trivial
  intro k s nx hk _ hn
  obtain ⟨x, hx, hi⟩ := at_lt (l := l) (k := k) hk
  simp only [GlEqShadeS.l0, hi, Option.bind_some, unShade, eqOne, letK, appK, iteK_if]
  exact hn () trivial
theorem fits_max {s : Shade} (h : s.fits) : s.name.size ≤ 9223372036854775807 := by
  obtain ⟨x0, x1, x2, x3, x4⟩ := s
  obtain ⟨hx0, hx1, hx2, hx3, hx4⟩ := h
  unfold maxLen at hx0
  exact hx0
theorem szOne (s : Shade) (left : Int) (h : s.fits) (h0 : 0 ≤ left) (h1 : left ≤ 1048576) : ∃ v, GlSzShade.P s left = some v ∧ v ≤ left := by
  have hm := fits_max h
  simp only [GlSzShade.P, unShade, letK, iteK_if]
  rw [wrap_in (x := left - (s.name.size : Int)) (by omega) (by omega)]
  by_cases hd0 : left - (s.name.size : Int) < 0
  · exact ⟨-1, by rw [if_pos (by simpa using hd0)], by omega⟩
  rw [if_neg (by simpa using hd0)]
  exact ⟨_, rfl, by omega⟩
theorem szS (l : List Shade) (hf : ∀ s ∈ l, s.fits) (hl : l.length ≤ 9223372036854775807) : ∃ v, GlSzShadeS.P l 1048576 = some v ∧ (0 ≤ v → l.length ≤ 1048576) := by
  simp only [GlSzShadeS.P, letK, iteK_if]
  rw [wrap_in (by omega) (by omega)]
  by_cases h : (1048576 : Int) - (l.length : Int) < 0
  · exact ⟨-1, by rw [if_pos (by simp; omega)], by omega⟩
  · rw [if_neg (by simp; omega)]
    refine cnt_ex (n := l.length) (Q := fun v => 0 ≤ v → l.length ≤ 1048576) (fun _ (s : Int) => 0 ≤ s ∧ s ≤ 1048576) ?_ ?_ l.length 0 _ (by omega) ⟨by omega, by omega⟩
    · intro k s nx hk hI hn
      obtain ⟨x, hx, hi⟩ := at_lt (l := l) (k := k) hk
      simp only [GlSzShadeS.l0, hi, Option.bind_some, unShade, letK, appK, iteK_if]
      obtain ⟨v, hv, hv1⟩ := szOne x s (hf x (List.mem_of_getElem? hx)) hI.1 hI.2
      have hv' : GlSzShade.P ⟨x.name, x.hue, x.width, x.dark, x.light⟩ s = some v := hv
      rw [hv']
      simp only [Option.bind_some]
      by_cases hb : v < 0
      · rw [if_pos (by simpa using hb)]; exact ⟨-1, by simp, by omega⟩
      · rw [if_neg (by simpa using hb)]
        exact hn _ ⟨by omega, by omega⟩
    · intro s hI; exact ⟨s, rfl, fun _ => by omega⟩
end Go.Proofs.Ytpbbechgpgnpbaa.QHShadeE
