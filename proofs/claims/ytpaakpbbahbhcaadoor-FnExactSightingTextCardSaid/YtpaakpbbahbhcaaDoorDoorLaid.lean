/- What the rows' lists of the library's tables give: the table of powers of ten holds what Itoa reads. Condition: the row's list is met. -/
import Derived.Test.YtpaakpbbahbhcaaDoorRows
import Derived.LaidSub
import Derived.Lib.LaidTab
import Derived.Lib.ItoaNum
import Derived.KernelRfl
namespace Go.Proofs.YtpaakpbbahbhcaaDoor.DoorLaid

theorem gPow : Tryd.prog.globalNamed "internal/strconv.uint64pow10" = some 0 := by kernel_rfl
def keepPow (x : String × DataW Unit) : Bool := x.1 == "internal/strconv.uint64pow10"
theorem gPowType : (Tryd.prog.globals[0]?).map (·.type) = some 54 := by kernel_rfl
theorem cellsPow : Tryd.prog.cellsOf 54 = 20 := by kernel_rfl
theorem cellsU64 : Tryd.prog.cellsOf 47 = 1 := by kernel_rfl

/-- Of whatever list holds the table at its own datum: the table is there. -/
theorem pow10 {l : List (String × DataW Unit)} {W : World} (h : laidMetH Tryd.prog l W) (hl : l.filter keepPow = [("internal/strconv.uint64pow10", Lib.tabData .u64 Lib.pow10Tab)]) :
    Lib.TabIs Tryd.prog W "internal/strconv.uint64pow10" .u64 Lib.pow10Tab := by
  have h1 := laidMetH.filter keepPow h
  rw [hl] at h1
  exact Lib.tabIs_of_head (rest := []) gPow gPowType Tryd.underlying54 Tryd.underlying47 cellsU64 cellsPow h1
end Go.Proofs.YtpaakpbbahbhcaaDoor.DoorLaid
