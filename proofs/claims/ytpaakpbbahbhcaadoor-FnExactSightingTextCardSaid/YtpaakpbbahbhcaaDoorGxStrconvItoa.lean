/- strconv.Itoa as a plain function; the contract of the program's. Condition: the library's table of powers of ten is as the library lays it. -/
import Derived.Test.YtpaakpbbahbhcaaDoorGoM
import Derived.Test.YtpaakpbbahbhcaaDoorTab
namespace Go.Proofs.YtpaakpbbahbhcaaDoor.GxStrconvItoa
set_option linter.unusedVariables false
open Go.RowKit
open Go.Proofs.YtpaakpbbahbhcaaDoor.Turn Go.Proofs.YtpaakpbbahbhcaaDoor.Tab
def P (n : Int) : Option ByteArray := if -9223372036854775808 ≤ n ∧ n ≤ 9223372036854775807 then some ⟨(Lib.itoa n).toArray⟩ else none
theorem C (n : Int) (w : World) (HT : Hid (Tab w)) {r : ByteArray} (H : Hid (P n = some r)) : Calls Tryd.prog 14 #[.int .i64 n] w (Gives (.string r) w) := by
  have h : P n = some r := H
  unfold P at h
  by_cases hk : -9223372036854775808 ≤ n ∧ n ≤ 9223372036854775807
  · rw [if_pos hk] at h
    obtain rfl := Option.some.inj h
    exact itoa_any n hk.1 hk.2 w HT
  · rw [if_neg hk] at h; simp at h
end Go.Proofs.YtpaakpbbahbhcaaDoor.GxStrconvItoa
