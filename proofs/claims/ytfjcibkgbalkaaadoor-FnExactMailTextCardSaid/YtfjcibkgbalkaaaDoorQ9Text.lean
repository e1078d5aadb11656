/- Chapter 9: mails and routes: the plain functions of the program and of the reference agree, and the laws answer true. (Q9Text) No condition but those of each theorem. -/
import Derived.Test.YtfjcibkgbalkaaaDoorQ9Mail
import Derived.Test.YtfjcibkgbalkaaaDoorQNum
import Derived.Test.YtfjcibkgbalkaaaDoorQLoop
import Derived.Test.YtfjcibkgbalkaaaDoorPMail
import Derived.Test.YtfjcibkgbalkaaaDoorGoRMail
import Derived.Test.YtfjcibkgbalkaaaDoorGiMailText
import Derived.Test.YtfjcibkgbalkaaaDoorGsMailText
namespace Go.Proofs.YtfjcibkgbalkaaaDoor.Q9Text
set_option linter.unusedVariables false
set_option linter.unusedSimpArgs false
open Go.RowKit
open Go.Proofs.YtfjcibkgbalkaaaDoor.GoP Go.Proofs.YtfjcibkgbalkaaaDoor.PlainStamp Go.Proofs.YtfjcibkgbalkaaaDoor.QBase Go.Proofs.YtfjcibkgbalkaaaDoor.Q9Mail Go.Proofs.YtfjcibkgbalkaaaDoor.QNum Go.Proofs.YtfjcibkgbalkaaaDoor.QLoop Go.Proofs.YtfjcibkgbalkaaaDoor.PMail

theorem text_same (x : Mail) : GiMailText.P x = GsMailText.P x ∧ ∃ a b, GsMailText.P x = some (a, b) := by
  have h3 := l9One_eq x
  have h4 := isMail_eq x
  have hof := fun hc => okM_of (x := x) hc
  obtain ⟨a, b, c, d⟩ := x
  simp only [GiMailText.P, GsMailText.P, unMail, h3, h4, Option.bind_some, letK, iteK_if]
  cases hc : okM ⟨a, b, c, d⟩ with
  | false => exact ⟨by simp, _, _, by simp; exact ⟨rfl, rfl⟩⟩
  | true =>
    obtain ⟨hb, hc, _, ha⟩ := hof hc
    dsimp only at hb hc ha
    have s1 := itoaB_size (n := a) (by omega) (by omega)
    have s2 := itoaB_size (n := b) (by omega) (by omega)
    have s3 := itoaB_size (n := c) (by omega) (by omega)
    have s4 := itoaB_size (n := d) (by omega) (by omega)
    simp only [itoa_eq (n := a) (by omega) (by omega), itoa_eq (n := b) (by omega) (by omega), itoa_eq (n := c) (by omega) (by omega), itoa_eq (n := d) (by omega) (by omega), num_eq (n := a) (by omega) (by omega), num_eq (n := b) (by omega) (by omega), num_eq (n := c) (by omega) (by omega), num_eq (n := d) (by omega) (by omega), Option.bind_some]
    refine ⟨by first | rfl | trivial, ?_⟩
    have e1 : (⟨#[32]⟩ : ByteArray).size = 1 := rfl
    have e2 : (⟨#[62]⟩ : ByteArray).size = 1 := rfl
    have e3 : (⟨#[45]⟩ : ByteArray).size = 1 := rfl
    simp only [Bool.not_true, Bool.false_eq_true, if_false]
    rw [guardK_pos (by unfold maxLen; omega)]
    iterate 5 rw [guardK_pos (by simp only [ByteArray.size_append]; unfold maxLen; omega)]
    exact ⟨_, _, rfl⟩
end Go.Proofs.YtfjcibkgbalkaaaDoor.Q9Text
