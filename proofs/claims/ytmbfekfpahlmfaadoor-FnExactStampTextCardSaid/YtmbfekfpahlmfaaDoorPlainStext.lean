/- Plain words on the text of a stamp. No condition. -/
import Derived.Test.YtmbfekfpahlmfaaDoorPlainStamp
import Derived.Test.YtmbfekfpahlmfaaDoorPlainFace
namespace Go.Proofs.YtmbfekfpahlmfaaDoor.PlainStext
set_option linter.unusedVariables false
open Go.Proofs.YtmbfekfpahlmfaaDoor.PlainStamp Go.Proofs.YtmbfekfpahlmfaaDoor.PlainNum Go.Proofs.YtmbfekfpahlmfaaDoor.PlainFace

/-- the text of a valid stamp -/
def textL (s : St) : List UInt8 := Lib.itoa s.id ++ [58, 32] ++ faceL s.face ++ [32, 99, 111, 108, 111, 114, 32] ++ Lib.itoa s.color ++ [32] ++ Lib.itoa s.year
def textRes (s : St) : ByteArray × Bool := if okSt s then (str (textL s), true) else (⟨#[]⟩, false)
theorem textRes_yes {s : St} (h : okSt s = true) : textRes s = (str (textL s), true) := by unfold textRes; rw [h]; rfl
theorem textRes_no {s : St} (h : okSt s = false) : textRes s = (⟨#[]⟩, false) := by unfold textRes; rw [h]; rfl
structure Bounds (s : St) : Prop where
  id : 1 ≤ s.id ∧ s.id ≤ 999
  face : 0 ≤ s.face ∧ s.face ≤ 9999
  color : 0 ≤ s.color ∧ s.color ≤ 99
  year : 1840 ≤ s.year ∧ s.year ≤ 2100
  lid : (Lib.itoa s.id).length ≤ 7
  lface : (faceL s.face).length ≤ 30
  lcolor : (Lib.itoa s.color).length ≤ 7
  lyear : (Lib.itoa s.year).length ≤ 7
theorem bounds {s : St} (h : okSt s = true) : Bounds s := by
  obtain ⟨a, b, c, d⟩ := okSt_yes h
  exact ⟨a, b, c, d, itoa_short (by omega) (by omega), faceL_len b.1 b.2, itoa_short (by omega) (by omega), itoa_short (by omega) (by omega)⟩
end Go.Proofs.YtmbfekfpahlmfaaDoor.PlainStext
