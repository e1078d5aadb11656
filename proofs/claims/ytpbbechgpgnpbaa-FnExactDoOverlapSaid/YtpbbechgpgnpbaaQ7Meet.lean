/- Chapter 7: hues and shades: the plain functions of the program and of the reference agree, and the laws answer true. (Q7Meet) No condition but those of each theorem. -/
import Derived.Test.YtpbbechgpgnpbaaQ7Shade
import Derived.Test.YtpbbechgpgnpbaaQ7Hue
import Derived.Test.YtpbbechgpgnpbaaQLoop
import Derived.Test.YtpbbechgpgnpbaaPShade
import Derived.Test.YtpbbechgpgnpbaaGiOverlaps
import Derived.Test.YtpbbechgpgnpbaaGsL7Meet
namespace Go.Proofs.Ytpbbechgpgnpbaa.Q7Meet
set_option linter.unusedVariables false
set_option linter.unusedSimpArgs false
open Go.RowKit
open Go.Proofs.Ytpbbechgpgnpbaa.GoP Go.Proofs.Ytpbbechgpgnpbaa.PlainStamp Go.Proofs.Ytpbbechgpgnpbaa.QBase Go.Proofs.Ytpbbechgpgnpbaa.Q7Shade Go.Proofs.Ytpbbechgpgnpbaa.Q7Hue Go.Proofs.Ytpbbechgpgnpbaa.QLoop Go.Proofs.Ytpbbechgpgnpbaa.PShade

def meetB (x y : Shade) : Bool := decide (far x.hue y.hue ≤ x.width + y.width) && decide (x.dark ≤ y.light) && decide (y.dark ≤ x.light)
theorem overlaps_eq {x y : Shade} (hx : okSh x = true) (hy : okSh y = true) : GiOverlaps.P x y = some (meetB x y) := by
  have h1 := okSh_of hx
  have h2 := okSh_of hy
  obtain ⟨a, b, c, d, e⟩ := x
  obtain ⟨a2, b2, c2, d2, e2⟩ := y
  dsimp only at h1 h2
  simp only [GiOverlaps.P, unShade, dist_eq h1.1 h2.1, Option.bind_some, letK, joinK, appK, iteK_if, meetB]
  rw [wrap_in (by omega) (by omega)]
  have : decide (max d d2 ≤ min e e2) = (decide (d ≤ e2) && decide (d2 ≤ e)) := by rw [Bool.eq_iff_iff]; simp; omega
  rw [this]
  by_cases h : far b b2 ≤ c + c2 <;> simp [h]
theorem l7Meet_eq {x y : Shade} (hx : okSh x = true) (hy : okSh y = true) : GsL7Meet.P x y = some (meetB x y) := by
  have h1 := okSh_of hx
  have h2 := okSh_of hy
  obtain ⟨a, b, c, d, e⟩ := x
  obtain ⟨a2, b2, c2, d2, e2⟩ := y
  dsimp only at h1 h2
  simp only [GsL7Meet.P, unShade, l7Far_eq h1.1 h2.1, Option.bind_some, letK, joinK, appK, iteK_if, meetB]
  rw [wrap_in (by omega) (by omega)]
  by_cases h : far b b2 ≤ c + c2 <;> by_cases h3 : d ≤ e2 <;> simp [h, h3]
end Go.Proofs.Ytpbbechgpgnpbaa.Q7Meet
