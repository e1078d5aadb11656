/- Texts of gauges and combs: the plain functions of the program and of the reference agree, and the laws answer true. (Q2FaceText) No condition but those of each theorem. -/
import Derived.Test.YtgfepdfamhnppaaDoorQ2Hund
import Derived.Test.YtgfepdfamhnppaaDoorQText
import Derived.Test.YtgfepdfamhnppaaDoorQNum
import Derived.Test.YtgfepdfamhnppaaDoorPlainFace
import Derived.Test.YtgfepdfamhnppaaDoorGlFnExactFaceText
namespace Go.Proofs.YtgfepdfamhnppaaDoor.Q2FaceText
set_option linter.unusedVariables false
set_option linter.unusedSimpArgs false
open Go.RowKit
open Go.Proofs.YtgfepdfamhnppaaDoor.GoP Go.Proofs.YtgfepdfamhnppaaDoor.PlainStamp Go.Proofs.YtgfepdfamhnppaaDoor.QBase Go.Proofs.YtgfepdfamhnppaaDoor.Q2Hund Go.Proofs.YtgfepdfamhnppaaDoor.QText Go.Proofs.YtgfepdfamhnppaaDoor.QNum Go.Proofs.YtgfepdfamhnppaaDoor.PlainFace

theorem specFace {n : Int} (h0 : 0 ≤ n) (h : n ≤ 9999) : GsL2Face.P n = some (str (Lib.itoa (n / 100) ++ [46, dig (n / 10 % 10), dig (n % 10)])) := by
  have a := itoa_short (n := n / 100) (by omega) (by omega)
  have d1 : Int.tdiv n 100 = n / 100 := Int.tdiv_eq_ediv_of_nonneg h0
  have d2 : Int.tdiv n 10 = n / 10 := Int.tdiv_eq_ediv_of_nonneg h0
  have d3 : Int.tmod (n / 10) 10 = n / 10 % 10 := Int.tmod_eq_emod_of_nonneg (by omega)
  have d4 : Int.tmod n 10 = n % 10 := Int.tmod_eq_emod_of_nonneg h0
  have e1 := itoa_dig (d := n / 10 % 10) (by omega) (by omega)
  have e2 := itoa_dig (d := n % 10) (by omega) (by omega)
  simp only [GsL2Face.P, letK, d1, d2, d4]
  rw [wrap_short (by omega) (by omega), wrap_short (by omega) (by omega), d3, num_eq (by omega) (by omega), num_eq (by omega) (by omega), num_eq (by omega) (by omega)]
  simp only [Option.bind_some, itoaB_str, e1, e2, mk_str, str_app, str_size]
  rw [guardK_pos (by simp [maxLen]; omega), guardK_pos (by simp [maxLen]; omega), guardK_pos (by simp [maxLen]; omega)]
  simp
theorem law_face (n : Int) : GlFnExactFaceText.P n = some true := by
  by_cases hc : 0 ≤ n ∧ n ≤ 9999
  · have hn : decide (n < 0) = false := by simp; omega
    have hn2 : decide (9999 < n) = false := by simp; omega
    have e : inB n 0 9999 = true := inB_yes hc.1 hc.2
    simp [GlFnExactFaceText.P, GsFaceText.P, GiFaceText.P, within_eq, l1In_eq, e, hund_eq hc.1 hc.2, specFace hc.1 hc.2, bind2, letK, joinK, appK, iteK_if]
  · have e : inB n 0 9999 = false := inB_no (by omega)
    simp [GlFnExactFaceText.P, GsFaceText.P, GiFaceText.P, within_eq, l1In_eq, e, bind2, letK, joinK, appK, iteK_if]
end Go.Proofs.YtgfepdfamhnppaaDoor.Q2FaceText
