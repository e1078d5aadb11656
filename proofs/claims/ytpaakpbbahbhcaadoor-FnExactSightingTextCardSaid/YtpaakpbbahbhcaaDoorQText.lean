/- Texts of gauges and combs: the plain functions of the program and of the reference agree, and the laws answer true. (QText) No condition but those of each theorem. -/
import Derived.Test.YtpaakpbbahbhcaaDoorQNum
import Derived.Test.YtpaakpbbahbhcaaDoorPlainFace
namespace Go.Proofs.YtpaakpbbahbhcaaDoor.QText
set_option linter.unusedVariables false
set_option linter.unusedSimpArgs false
open Go.RowKit
open Go.Proofs.YtpaakpbbahbhcaaDoor.GoP Go.Proofs.YtpaakpbbahbhcaaDoor.PlainStamp Go.Proofs.YtpaakpbbahbhcaaDoor.QBase Go.Proofs.YtpaakpbbahbhcaaDoor.QNum Go.Proofs.YtpaakpbbahbhcaaDoor.PlainFace

theorem sz_mk (a : Array UInt8) : (⟨a⟩ : ByteArray).size = a.size := rfl
theorem str_size (l : List UInt8) : (str l).size = l.length := by unfold str; rw [sz_mk, List.size_toArray]
theorem str_list (l : List UInt8) : (str l).toList = l := by rw [Lib.toList_data]; simp [str]
theorem str_app (a b : List UInt8) : str a ++ str b = str (a ++ b) := by
  apply ByteArray.ext; simp [str]
theorem str_cut (l : List UInt8) (i j : Nat) : (str l).extract i j = str ((l.take j).drop i) := by
  apply ByteArray.ext
  simp [str, List.drop_take]
theorem itoaB_str (n : Int) : itoaB n = str (Lib.itoa n) := rfl
theorem mk_str (l : List UInt8) : (⟨l.toArray⟩ : ByteArray) = str l := rfl
theorem dig_cases {d : Int} (h0 : 0 ≤ d) (h : d < 10) : d = 0 ∨ d = 1 ∨ d = 2 ∨ d = 3 ∨ d = 4 ∨ d = 5 ∨ d = 6 ∨ d = 7 ∨ d = 8 ∨ d = 9 := by omega
theorem dig_zero : dig 0 = 48 := rfl
theorem dig_not {d : Int} (h0 : 0 < d) (h : d < 10) : (dig d == 48) = false := by
  rcases dig_cases (d := d) (by omega) h with rfl | rfl | rfl | rfl | rfl | rfl | rfl | rfl | rfl | rfl <;> first | omega | decide
theorem dig_dot {d : Int} (h0 : 0 ≤ d) (h : d < 10) : dig d ≠ 46 := by
  rcases dig_cases h0 h with rfl | rfl | rfl | rfl | rfl | rfl | rfl | rfl | rfl | rfl <;> decide
end Go.Proofs.YtpaakpbbahbhcaaDoor.QText
