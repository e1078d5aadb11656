/- Chapter 7: a shade's text: the plain functions of the program and of the reference agree, and the law answers true. (Q7Text) No condition but those of each theorem. -/
import Derived.Test.YtpbbechgpgnpbaaDoorQ7Shade
import Derived.Test.YtpbbechgpgnpbaaDoorQWord
import Derived.Test.YtpbbechgpgnpbaaDoorQNum
import Derived.Test.YtpbbechgpgnpbaaDoorQLoop
import Derived.Test.YtpbbechgpgnpbaaDoorPShade
import Derived.Test.YtpbbechgpgnpbaaDoorGiShadeText
import Derived.Test.YtpbbechgpgnpbaaDoorGsShadeText
namespace Go.Proofs.YtpbbechgpgnpbaaDoor.Q7Text
set_option linter.unusedVariables false
set_option linter.unusedSimpArgs false
open Go.RowKit
open Go.Proofs.YtpbbechgpgnpbaaDoor.GoP Go.Proofs.YtpbbechgpgnpbaaDoor.PlainStamp Go.Proofs.YtpbbechgpgnpbaaDoor.QBase Go.Proofs.YtpbbechgpgnpbaaDoor.Q7Shade Go.Proofs.YtpbbechgpgnpbaaDoor.QWord Go.Proofs.YtpbbechgpgnpbaaDoor.QNum Go.Proofs.YtpbbechgpgnpbaaDoor.QLoop Go.Proofs.YtpbbechgpgnpbaaDoor.PShade

theorem text_same (x : Shade) (h : x.fits) : GiShadeText.P x = GsShadeText.P x ∧ ∃ a b, GsShadeText.P x = some (a, b) := by
  have h3 := l7One_eq x h
  have h4 := isShade_eq x
  have hof := fun hc => okSh_of (x := x) hc
  obtain ⟨a, b, c, d, e⟩ := x
  simp only [GiShadeText.P, GsShadeText.P, unShade, h3, h4, Option.bind_some, letK, iteK_if]
  cases hc : okSh ⟨a, b, c, d, e⟩ with
  | false => exact ⟨by simp, _, _, by simp; exact ⟨rfl, rfl⟩⟩
  | true =>
    obtain ⟨hb, hcw, hd, he, hde, hw⟩ := hof hc
    dsimp only at hb hcw hd he hde hw
    have hwl := word_len hw
    have s1 := itoaB_size (n := b) (by omega) (by omega)
    have s2 := itoaB_size (n := c) (by omega) (by omega)
    have s3 := itoaB_size (n := d) (by omega) (by omega)
    have s4 := itoaB_size (n := e) (by omega) (by omega)
    simp only [itoa_eq (n := b) (by omega) (by omega), itoa_eq (n := c) (by omega) (by omega), itoa_eq (n := d) (by omega) (by omega), itoa_eq (n := e) (by omega) (by omega), num_eq (n := b) (by omega) (by omega), num_eq (n := c) (by omega) (by omega), num_eq (n := d) (by omega) (by omega), num_eq (n := e) (by omega) (by omega), Option.bind_some]
    refine ⟨by first | rfl | trivial, ?_⟩
    have e1 : (⟨#[32]⟩ : ByteArray).size = 1 := rfl
    have e2 : (⟨#[43, 45]⟩ : ByteArray).size = 2 := rfl
    have e3 : (⟨#[46, 46]⟩ : ByteArray).size = 2 := rfl
    simp only [Bool.not_true, Bool.false_eq_true, if_false]
    rw [guardK_pos (by unfold maxLen; omega), guardK_pos (by simp only [ByteArray.size_append]; unfold maxLen; omega), guardK_pos (by simp only [ByteArray.size_append]; unfold maxLen; omega), guardK_pos (by simp only [ByteArray.size_append]; unfold maxLen; omega), guardK_pos (by simp only [ByteArray.size_append]; unfold maxLen; omega), guardK_pos (by simp only [ByteArray.size_append]; unfold maxLen; omega), guardK_pos (by simp only [ByteArray.size_append]; unfold maxLen; omega), guardK_pos (by simp only [ByteArray.size_append]; unfold maxLen; omega)]
    exact ⟨_, _, rfl⟩
end Go.Proofs.YtpbbechgpgnpbaaDoor.Q7Text
