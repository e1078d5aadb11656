/- Texts of gauges and combs: the plain functions of the program and of the reference agree, and the laws answer true. (Q2SpecFace) No condition but those of each theorem. -/
import Derived.Test.YtfnghemjonkjiaaDoorQText
import Derived.Test.YtfnghemjonkjiaaDoorQNum
import Derived.Test.YtfnghemjonkjiaaDoorPlainFace
import Derived.Test.YtfnghemjonkjiaaDoorGsL2Face
namespace Go.Proofs.YtfnghemjonkjiaaDoor.Q2SpecFace
set_option linter.unusedVariables false
set_option linter.unusedSimpArgs false
open Go.RowKit
open Go.Proofs.YtfnghemjonkjiaaDoor.GoP Go.Proofs.YtfnghemjonkjiaaDoor.PlainStamp Go.Proofs.YtfnghemjonkjiaaDoor.QBase Go.Proofs.YtfnghemjonkjiaaDoor.QText Go.Proofs.YtfnghemjonkjiaaDoor.QNum Go.Proofs.YtfnghemjonkjiaaDoor.PlainFace

theorem specFace {n : Int} (h0 : 0 ≤ n) (h : n ≤ 9999) : GsL2Face.P n = some (str (Lib.itoa (n / 100) ++ [46, dig (n / 10 % 10), dig (n % 10)])) := by
  have a := itoa_short (n := n / 100) (by omega) (by omega)
  have d1 : Int.tdiv n 100 = n / 100 := Int.tdiv_eq_ediv_of_nonneg h0
  have d2 : Int.tdiv n 10 = n / 10 := Int.tdiv_eq_ediv_of_nonneg h0
  have d3 : Int.tmod (n / 10) 10 = n / 10 % 10 := Int.tmod_eq_emod_of_nonneg (by omega)
  have d4 : Int.tmod n 10 = n % 10 := Int.tmod_eq_emod_of_nonneg h0
  have e1 := itoa_dig (d := n / 10 % 10) (by omega) (by omega)
  have e2 := itoa_dig (d := n % 10) (by omega) (by omega)
  simp only [GsL2Face.P, letK, d1, d2, d4]
  rw [wrap_short (by omega) (by omega), wrap_short (by omega) (by omega), d3, num_eq (by omega) (by omega), num_eq (by omega) (by omega), num_eq (by omega) (by omega)]
  simp only [Option.bind_some, itoaB_str, e1, e2, mk_str, str_app, str_size]
  rw [guardK_pos (by simp [maxLen]; omega), guardK_pos (by simp [maxLen]; omega), guardK_pos (by simp [maxLen]; omega)]
  simp
end Go.Proofs.YtfnghemjonkjiaaDoor.Q2SpecFace
