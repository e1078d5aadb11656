/- Chapter 9: mails and routes: the plain functions of the program and of the reference agree, and the laws answer true. (QL9Time) No condition but those of each theorem. -/
import Derived.Test.YtfjcibkgbalkaaaQ9List
import Derived.Test.YtfjcibkgbalkaaaQLoop
import Derived.Test.YtfjcibkgbalkaaaPMail
import Derived.Test.YtfjcibkgbalkaaaQHMailE
import Derived.Test.YtfjcibkgbalkaaaGsIsTimetable
import Derived.Test.YtfjcibkgbalkaaaGlFnExactIsTimetable
namespace Go.Proofs.Ytfjcibkgbalkaaa.QL9Time
set_option linter.unusedVariables false
set_option linter.unusedSimpArgs false
open Go.RowKit
open Go.Proofs.Ytfjcibkgbalkaaa.GoP Go.Proofs.Ytfjcibkgbalkaaa.PlainStamp Go.Proofs.Ytfjcibkgbalkaaa.QBase Go.Proofs.Ytfjcibkgbalkaaa.Q9List Go.Proofs.Ytfjcibkgbalkaaa.QLoop Go.Proofs.Ytfjcibkgbalkaaa.PMail Go.Proofs.Ytfjcibkgbalkaaa.QHMailE

theorem law_time (l : List Mail) (hl : l.length ≤ 9223372036854775807) : GlFnExactIsTimetable.P l = some true := by
  simp only [GlFnExactIsTimetable.P, szS l hl, Option.bind_some, letK, iteK_if]
  by_cases hb : l.length ≤ 1048576
  · rw [if_neg (by rw [if_pos hb]; simp; omega)]
    simp [toS l hb, GsIsTimetable.P, l9Good_eq l hl, isTime_eq l hl, eqS]
  · rw [if_pos (by rw [if_neg hb]; simp)]
end Go.Proofs.Ytfjcibkgbalkaaa.QL9Time
