/- Texts of gauges and combs: the plain functions of the program and of the reference agree, and the laws answer true. (Q2Hund) No condition but those of each theorem. -/
import Derived.Test.YtfnghemjonkjiaaDoorQText
import Derived.Test.YtfnghemjonkjiaaDoorQNum
import Derived.Test.YtfnghemjonkjiaaDoorPlainFace
import Derived.Test.YtfnghemjonkjiaaDoorGiHundredths
namespace Go.Proofs.YtfnghemjonkjiaaDoor.Q2Hund
set_option linter.unusedVariables false
set_option linter.unusedSimpArgs false
open Go.RowKit
open Go.Proofs.YtfnghemjonkjiaaDoor.GoP Go.Proofs.YtfnghemjonkjiaaDoor.PlainStamp Go.Proofs.YtfnghemjonkjiaaDoor.QBase Go.Proofs.YtfnghemjonkjiaaDoor.QText Go.Proofs.YtfnghemjonkjiaaDoor.QNum Go.Proofs.YtfnghemjonkjiaaDoor.PlainFace

theorem hund_eq {g : Int} (h0 : 0 ≤ g) (h : g ≤ 9999) : GiHundredths.P g = some (str (Lib.itoa (g / 100) ++ [46, dig (g / 10 % 10), dig (g % 10)])) := by
  have a := itoa_short (n := g / 100) (by omega) (by omega)
  have d1 : Int.tdiv g 100 = g / 100 := Int.tdiv_eq_ediv_of_nonneg (by omega)
  have d2 : Int.tmod g 100 = g % 100 := Int.tmod_eq_emod_of_nonneg (by omega)
  have e := itoa_hund (r := g % 100) (by omega) (by omega)
  rw [show g % 100 / 10 = g / 10 % 10 by omega, show g % 100 % 10 = g % 10 by omega] at e
  simp only [GiHundredths.P, letK, d1, d2]
  rw [wrap_short (by omega) (by omega), wrap_short (by omega) (by omega), itoa_eq (by omega) (by omega), itoa_eq (by omega) (by omega)]
  simp only [Option.bind_some, itoaB_str, e, mk_str]
  rw [guardK_pos (by rw [str_size]; simp), str_cut, str_size]
  simp only [mk_str, str_app, str_size]
  rw [guardK_pos (by simp only [List.length_cons, List.length_nil, maxLen]; omega), guardK_pos (by simp only [List.length_append, List.length_cons, List.length_nil, maxLen]; simp; omega)]
  simp
end Go.Proofs.YtfnghemjonkjiaaDoor.Q2Hund
