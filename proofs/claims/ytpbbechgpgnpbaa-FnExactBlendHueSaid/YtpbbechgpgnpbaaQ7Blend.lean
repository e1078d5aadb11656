/- Chapter 7: hues and shades: the plain functions of the program and of the reference agree, and the laws answer true. (Q7Blend) No condition but those of each theorem. -/
import Derived.Test.YtpbbechgpgnpbaaQ7Hue
import Derived.Test.YtpbbechgpgnpbaaQLoop
import Derived.Test.YtpbbechgpgnpbaaGiBlendHue
import Derived.Test.YtpbbechgpgnpbaaGsBlendHue
namespace Go.Proofs.Ytpbbechgpgnpbaa.Q7Blend
set_option linter.unusedVariables false
set_option linter.unusedSimpArgs false
open Go.RowKit
open Go.Proofs.Ytpbbechgpgnpbaa.GoP Go.Proofs.Ytpbbechgpgnpbaa.PlainStamp Go.Proofs.Ytpbbechgpgnpbaa.QBase Go.Proofs.Ytpbbechgpgnpbaa.Q7Hue Go.Proofs.Ytpbbechgpgnpbaa.QLoop

def blendRes (a b : Int) : Int × Bool := if (inB a 0 359 && inB b 0 359) = true then (if (b - a + 360) % 360 ≤ 180 then (a + (b - a + 360) % 360 / 2) % 360 else (a + 360 - (360 - (b - a + 360) % 360) / 2) % 360, true) else (0, false)
theorem blend_impl (a b : Int) : GiBlendHue.P a b = some (blendRes a b) := by
  simp only [GiBlendHue.P, hue_impl, blendRes, hueRes]
  cases ha : inB a 0 359 with
  | false => simp [bind2, letK, iteK_if]
  | true =>
    cases hb : inB b 0 359 with
    | false => simp [bind2, letK, iteK_if]
    | true =>
      have h1 := inB_of ha
      have h2 := inB_of hb
      simp only [Bool.and_true, if_true, bind2_some, letK, iteK_if, Bool.not_true, Bool.false_eq_true, if_false, up_eq h1 h2, Option.bind_some, GiBlendHue.j0]
      have h3 : 0 ≤ far a b ∧ far a b ≤ 180 := by unfold far; omega
      rw [Int.tdiv_eq_ediv_of_nonneg h3.1, wrap_in (x := far a b / 2) (by omega) (by omega)]
      by_cases hu : (b - a + 360) % 360 ≤ 180
      · rw [if_neg (by simp; omega), if_pos hu, wrap_in (x := a + far a b / 2) (by omega) (by omega), circle_eq (by omega) (by omega)]
        have : far a b = (b - a + 360) % 360 := by unfold far; omega
        rw [this]
        simp only [Option.bind_some]
        congr 2; omega
      · rw [if_pos (by simp; omega), if_neg hu, wrap_in (x := -(far a b / 2)) (by omega) (by omega), wrap_in (x := a + -(far a b / 2)) (by omega) (by omega), circle_eq (by omega) (by omega)]
        have : far a b = 360 - (b - a + 360) % 360 := by unfold far; omega
        rw [this]
        simp only [Option.bind_some]
        congr 2; omega
theorem blend_spec (a b : Int) : GsBlendHue.P a b = some (blendRes a b) := by
  simp only [GsBlendHue.P, l7Hue_eq, Option.bind_some, letK, joinK, appK, iteK_if, blendRes]
  cases ha : inB a 0 359 with
  | false => simp
  | true =>
    cases hb : inB b 0 359 with
    | false => simp
    | true =>
      have h1 := inB_of ha
      have h2 := inB_of hb
      simp only [Bool.and_true, if_true, Bool.not_true, Bool.false_eq_true, if_false]
      rw [wrap_in (x := b - a) (by omega) (by omega), wrap_in (x := b - a + 360) (by omega) (by omega), Int.tmod_eq_emod_of_nonneg (by omega)]
      have h3 : 0 ≤ (b - a + 360) % 360 ∧ (b - a + 360) % 360 ≤ 359 := by omega
      by_cases hu : (b - a + 360) % 360 ≤ 180
      · rw [if_pos (by simpa using hu), if_pos hu, Int.tdiv_eq_ediv_of_nonneg h3.1, wrap_in (x := (b - a + 360) % 360 / 2) (by omega) (by omega), wrap_in (by omega) (by omega), Int.tmod_eq_emod_of_nonneg (by omega)]
      · rw [if_neg (by simpa using hu), if_neg hu, wrap_in (x := a + 360) (by omega) (by omega), wrap_in (x := 360 - (b - a + 360) % 360) (by omega) (by omega), Int.tdiv_eq_ediv_of_nonneg (by omega), wrap_in (x := (360 - (b - a + 360) % 360) / 2) (by omega) (by omega), wrap_in (by omega) (by omega), Int.tmod_eq_emod_of_nonneg (by omega)]
end Go.Proofs.Ytpbbechgpgnpbaa.Q7Blend
