/- Chapter 8: a rate's text: the plain functions of the program and of the reference agree, and the law answers true. (Q8Text) No condition but those of each theorem. -/
import Derived.Test.YtkinlkmmelkdnaaDoorQ8Rate
import Derived.Test.YtkinlkmmelkdnaaDoorQNum
import Derived.Test.YtkinlkmmelkdnaaDoorQLoop
import Derived.Test.YtkinlkmmelkdnaaDoorPRate
import Derived.Test.YtkinlkmmelkdnaaDoorGoRRate
import Derived.Test.YtkinlkmmelkdnaaDoorGiRateText
import Derived.Test.YtkinlkmmelkdnaaDoorGsRateText
namespace Go.Proofs.YtkinlkmmelkdnaaDoor.Q8Text
set_option linter.unusedVariables false
set_option linter.unusedSimpArgs false
open Go.RowKit
open Go.Proofs.YtkinlkmmelkdnaaDoor.GoP Go.Proofs.YtkinlkmmelkdnaaDoor.PlainStamp Go.Proofs.YtkinlkmmelkdnaaDoor.QBase Go.Proofs.YtkinlkmmelkdnaaDoor.Q8Rate Go.Proofs.YtkinlkmmelkdnaaDoor.QNum Go.Proofs.YtkinlkmmelkdnaaDoor.QLoop Go.Proofs.YtkinlkmmelkdnaaDoor.PRate

theorem text_same (x : Rate) : GiRateText.P x = GsRateText.P x ∧ ∃ a b, GsRateText.P x = some (a, b) := by
  have h3 := l8One_eq x
  have h4 := isRate_eq x
  have hof := fun hc => okR_of (x := x) hc
  obtain ⟨a, b, c, d, e⟩ := x
  simp only [GiRateText.P, GsRateText.P, unRate, h3, h4, Option.bind_some, letK, iteK_if]
  cases hc : okR ⟨a, b, c, d, e⟩ with
  | false => exact ⟨by simp, _, _, by simp; exact ⟨rfl, rfl⟩⟩
  | true =>
    obtain ⟨ha, hb, he, hcd⟩ := hof hc
    dsimp only at ha hb he hcd
    have s1 := itoaB_size (n := a) (by omega) (by omega)
    have s2 := itoaB_size (n := b) (by omega) (by omega)
    have s3 := itoaB_size (n := c) (by omega) (by omega)
    have s4 := itoaB_size (n := d) (by omega) (by omega)
    have s5 := itoaB_size (n := e) (by omega) (by omega)
    simp only [itoa_eq (n := a) (by omega) (by omega), itoa_eq (n := b) (by omega) (by omega), itoa_eq (n := c) (by omega) (by omega), itoa_eq (n := d) (by omega) (by omega), itoa_eq (n := e) (by omega) (by omega), num_eq (n := a) (by omega) (by omega), num_eq (n := b) (by omega) (by omega), num_eq (n := c) (by omega) (by omega), num_eq (n := d) (by omega) (by omega), num_eq (n := e) (by omega) (by omega), Option.bind_some]
    refine ⟨by first | rfl | trivial, ?_⟩
    have e1 : (⟨#[32]⟩ : ByteArray).size = 1 := rfl
    have e2 : (⟨#[103, 32]⟩ : ByteArray).size = 2 := rfl
    have e3 : (⟨#[46, 46]⟩ : ByteArray).size = 2 := rfl
    have e4 : (⟨#[122]⟩ : ByteArray).size = 1 := rfl
    have e5 : (⟨#[99]⟩ : ByteArray).size = 1 := rfl
    simp only [Bool.not_true, Bool.false_eq_true, if_false]
    rw [guardK_pos (by unfold maxLen; omega)]
    iterate 9 rw [guardK_pos (by simp only [ByteArray.size_append]; unfold maxLen; omega)]
    exact ⟨_, _, rfl⟩
end Go.Proofs.YtkinlkmmelkdnaaDoor.Q8Text
