/- Decimal texts as plain functions: Itoa and l1Num, for short numbers. No condition. -/
import Derived.Test.YtpaakpbbahbhcaaDoorQBase
import Derived.IntWalk
import Derived.Test.YtpaakpbbahbhcaaDoorPlainFace
import Derived.Test.YtpaakpbbahbhcaaDoorGxStrconvItoa
import Derived.Test.YtpaakpbbahbhcaaDoorGsL1Num
namespace Go.Proofs.YtpaakpbbahbhcaaDoor.QNum
set_option linter.unusedVariables false
set_option linter.unusedSimpArgs false
open Go.RowKit
open Go.Proofs.YtpaakpbbahbhcaaDoor.GoP Go.Proofs.YtpaakpbbahbhcaaDoor.QBase

def itoaB (n : Int) : ByteArray := ⟨(Lib.itoa n).toArray⟩
theorem itoa_eq {n : Int} (h1 : -999999 ≤ n) (h2 : n ≤ 999999) : GxStrconvItoa.P n = some (itoaB n) := by unfold GxStrconvItoa.P; rw [if_pos (by omega)]; rfl
theorem num_eq {n : Int} (h1 : -999999 ≤ n) (h2 : n ≤ 999999) : GsL1Num.P n = some (itoaB n) := by unfold GsL1Num.P; rw [if_pos (by omega)]; rfl
theorem itoaB_size {n : Int} (h1 : -999999 ≤ n) (h2 : n ≤ 999999) : (itoaB n).size ≤ 7 := by
  show (Lib.itoa n).toArray.size ≤ 7
  rw [List.size_toArray]; exact (PlainNum.itoa_len n h1 h2).2
theorem wrap_short {x : Int} (h1 : -9223372036854775808 ≤ x) (h2 : x ≤ 9223372036854775807) : IntKind.i64.wrap x = x := IntWalk.i64_in _ (by omega)
theorem fits_cat {a b : ByteArray} (h : a.size + b.size ≤ 9223372036854775807) {ρ : Type} {x : Option ρ} : guardK (a.size + b.size ≤ maxLen) x = x := guardK_pos (by unfold maxLen; exact h)
end Go.Proofs.YtpaakpbbahbhcaaDoor.QNum
