/- Chapter 7: hues and shades: the plain functions of the program and of the reference agree, and the laws answer true. (QL7Overlap) No condition but those of each theorem. -/
import Derived.Test.YtpbbechgpgnpbaaQ7Meet
import Derived.Test.YtpbbechgpgnpbaaQ7Shade
import Derived.Test.YtpbbechgpgnpbaaQLoop
import Derived.Test.YtpbbechgpgnpbaaPShade
import Derived.Test.YtpbbechgpgnpbaaQHShadeE
import Derived.Test.YtpbbechgpgnpbaaGiDoOverlap
import Derived.Test.YtpbbechgpgnpbaaGsDoOverlap
import Derived.Test.YtpbbechgpgnpbaaGlFnExactDoOverlap
namespace Go.Proofs.Ytpbbechgpgnpbaa.QL7Overlap
set_option linter.unusedVariables false
set_option linter.unusedSimpArgs false
open Go.RowKit
open Go.Proofs.Ytpbbechgpgnpbaa.GoP Go.Proofs.Ytpbbechgpgnpbaa.PlainStamp Go.Proofs.Ytpbbechgpgnpbaa.QBase Go.Proofs.Ytpbbechgpgnpbaa.Q7Meet Go.Proofs.Ytpbbechgpgnpbaa.Q7Shade Go.Proofs.Ytpbbechgpgnpbaa.QLoop Go.Proofs.Ytpbbechgpgnpbaa.PShade Go.Proofs.Ytpbbechgpgnpbaa.QHShadeE

def overRes (x y : Shade) : Bool × Bool := if (okSh x && okSh y) = true then (meetB x y, true) else (false, false)
theorem over_impl (x y : Shade) : GiDoOverlap.P x y = some (overRes x y) := by
  have hm := @overlaps_eq x y
  obtain ⟨a, b, c, d, e⟩ := x
  obtain ⟨a2, b2, c2, d2, e2⟩ := y
  simp only [GiDoOverlap.P, unShade, isShade_eq, Option.bind_some, letK, joinK, appK, iteK_if, overRes]
  cases hx : okSh ⟨a, b, c, d, e⟩ with
  | false => simp
  | true =>
    cases hy : okSh ⟨a2, b2, c2, d2, e2⟩ with
    | false => simp
    | true => simp [hm hx hy]
theorem over_spec (x y : Shade) (h : x.fits) (h2 : y.fits) : GsDoOverlap.P x y = some (overRes x y) := by
  have hm := @l7Meet_eq x y
  have h3 := l7One_eq x h
  have h4 := l7One_eq y h2
  obtain ⟨a, b, c, d, e⟩ := x
  obtain ⟨a2, b2, c2, d2, e2⟩ := y
  simp only [GsDoOverlap.P, unShade, h3, h4, Option.bind_some, letK, joinK, appK, iteK_if, overRes]
  cases hx : okSh ⟨a, b, c, d, e⟩ with
  | false => simp
  | true =>
    cases hy : okSh ⟨a2, b2, c2, d2, e2⟩ with
    | false => simp
    | true => simp [hm hx hy]
theorem law_overlap (x y : Shade) (h : x.fits) (h2 : y.fits) : GlFnExactDoOverlap.P x y = some true := by
  obtain ⟨v, hv, hle⟩ := szOne x 1048576 h (by omega) (by omega)
  have hi := over_impl x y
  have hs := over_spec x y h h2
  have hsz := fun (k : Int) hk hk2 => szOne y k h2 hk hk2
  obtain ⟨⟨p, q⟩, hr⟩ : ∃ z, z = overRes x y := ⟨_, rfl⟩
  rw [← hr] at hi hs
  obtain ⟨a, b, c, d, e⟩ := x
  obtain ⟨a2, b2, c2, d2, e2⟩ := y
  simp only [GlFnExactDoOverlap.P, unShade, hv, Option.bind_some, letK, iteK_if]
  by_cases hb : v < 0
  · rw [if_pos (by simpa using hb)]
  · rw [if_neg (by simpa using hb)]
    obtain ⟨v2, hv2, _⟩ := hsz v (by omega) hle
    simp only [hv2, Option.bind_some]
    by_cases hb2 : v2 < 0
    · rw [if_pos (by simpa using hb2)]
    · rw [if_neg (by simpa using hb2)]
      simp [toOne, unShade, hs, hi, bind2, joinK, appK, iteK_if]
end Go.Proofs.Ytpbbechgpgnpbaa.QL7Overlap
