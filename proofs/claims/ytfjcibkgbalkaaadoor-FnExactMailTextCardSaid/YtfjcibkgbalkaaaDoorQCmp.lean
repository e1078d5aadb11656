/- Chapter 9: mails and routes: the plain functions of the program and of the reference agree, and the laws answer true. (QCmp) No condition but those of each theorem. -/
import Derived.Test.YtfjcibkgbalkaaaDoorQLoop
import Derived.Test.YtfjcibkgbalkaaaDoorGxCmpOrInt
import Derived.Test.YtfjcibkgbalkaaaDoorGxCmpCompareInt
namespace Go.Proofs.YtfjcibkgbalkaaaDoor.QCmp
set_option linter.unusedVariables false
set_option linter.unusedSimpArgs false
open Go.RowKit
open Go.Proofs.YtfjcibkgbalkaaaDoor.GoP Go.Proofs.YtfjcibkgbalkaaaDoor.PlainStamp Go.Proofs.YtfjcibkgbalkaaaDoor.QBase Go.Proofs.YtfjcibkgbalkaaaDoor.QLoop

def cmpI (x y : Int) : Int := if x < y then -1 else if y < x then 1 else 0
theorem cmp_eq (x y : Int) : GxCmpCompareInt.P x y = some (cmpI x y) := by
  simp only [GxCmpCompareInt.P, GxCmpIsNaNInt.P, Option.bind_some, letK, iteK_if, cmpI]
  by_cases h1 : x < y
  · simp [h1]
  · by_cases h2 : y < x <;> simp [h1, h2]
theorem or_eq (a b c d : Int) : GxCmpOrInt.P [a, b, c, d] = some (if a != 0 then a else if b != 0 then b else if c != 0 then c else d) := by
  have st : ∀ m k fin, cntK (GxCmpOrInt.l0 [a, b, c, d]) (m + 1) k () fin = GxCmpOrInt.l0 [a, b, c, d] k () (fun s' => cntK (GxCmpOrInt.l0 [a, b, c, d]) m (k + 1) s' fin) fin := fun _ _ _ => rfl
  show cntK (GxCmpOrInt.l0 [a, b, c, d]) (3 + 1) 0 () (GxCmpOrInt.e0) = _
  rw [st]
  simp only [GxCmpOrInt.l0, show idx [a, b, c, d] ((0 : Nat) : Int) = some a from rfl, Option.bind_some, letK, appK, iteK_if]
  by_cases ha : (a != 0) = true
  · rw [if_pos ha, if_pos ha]
  · rw [if_neg ha, if_neg ha]
    show cntK (GxCmpOrInt.l0 [a, b, c, d]) (2 + 1) 1 () (GxCmpOrInt.e0) = _
    rw [st]
    simp only [GxCmpOrInt.l0, show idx [a, b, c, d] ((1 : Nat) : Int) = some b from rfl, Option.bind_some, letK, appK, iteK_if]
    by_cases hb : (b != 0) = true
    · rw [if_pos hb, if_pos hb]
    · rw [if_neg hb, if_neg hb]
      show cntK (GxCmpOrInt.l0 [a, b, c, d]) (1 + 1) 2 () (GxCmpOrInt.e0) = _
      rw [st]
      simp only [GxCmpOrInt.l0, show idx [a, b, c, d] ((2 : Nat) : Int) = some c from rfl, Option.bind_some, letK, appK, iteK_if]
      by_cases hc : (c != 0) = true
      · rw [if_pos hc, if_pos hc]
      · rw [if_neg hc, if_neg hc]
        show cntK (GxCmpOrInt.l0 [a, b, c, d]) (0 + 1) 3 () (GxCmpOrInt.e0) = _
        rw [st]
        simp only [GxCmpOrInt.l0, show idx [a, b, c, d] ((3 : Nat) : Int) = some d from rfl, Option.bind_some, letK, appK, iteK_if]
        by_cases hd : (d != 0) = true
        · rw [if_pos hd]
        · rw [if_neg hd]
          have : d = 0 := by simpa using hd
          rw [this]; rfl
end Go.Proofs.YtfjcibkgbalkaaaDoor.QCmp
