/- Chapter 7: a shade's text: the plain functions of the program and of the reference agree, and the law answers true. (Q7One) No condition but those of each theorem. -/
import Derived.Test.YtpbbechgpgnpbaaDoorQLoop
import Derived.Test.YtpbbechgpgnpbaaDoorPShade
import Derived.Test.YtpbbechgpgnpbaaDoorGoRShade
import Derived.Test.YtpbbechgpgnpbaaDoorGlToShade
import Derived.Test.YtpbbechgpgnpbaaDoorGlSzShade
namespace Go.Proofs.YtpbbechgpgnpbaaDoor.Q7One
set_option linter.unusedVariables false
set_option linter.unusedSimpArgs false
open Go.RowKit
open Go.Proofs.YtpbbechgpgnpbaaDoor.GoP Go.Proofs.YtpbbechgpgnpbaaDoor.PlainStamp Go.Proofs.YtpbbechgpgnpbaaDoor.QBase Go.Proofs.YtpbbechgpgnpbaaDoor.QLoop Go.Proofs.YtpbbechgpgnpbaaDoor.PShade

theorem toOne (s : Shade) : GlToShade.P s = some s := by cases s; rfl
theorem szOne (s : Shade) (left : Int) (h : s.fits) (h0 : 0 ≤ left) (h1 : left ≤ 1048576) : ∃ v, GlSzShade.P s left = some v ∧ v ≤ left := by
  have hm : s.name.size ≤ 9223372036854775807 := h.1
  simp only [GlSzShade.P, unShade, letK, iteK_if]
  rw [wrap_in (x := left - (s.name.size : Int)) (by omega) (by omega)]
  by_cases hd0 : left - (s.name.size : Int) < 0
  · exact ⟨-1, by rw [if_pos (by simpa using hd0)], by omega⟩
  rw [if_neg (by simpa using hd0)]
  exact ⟨_, rfl, by omega⟩
end Go.Proofs.YtpbbechgpgnpbaaDoor.Q7One
