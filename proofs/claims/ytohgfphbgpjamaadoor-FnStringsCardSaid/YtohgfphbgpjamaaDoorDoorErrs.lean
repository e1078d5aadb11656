/- What the rows' lists of the library's errors give: the two variables hold an error each. Condition: the row's list is met. -/
import Derived.Test.YtohgfphbgpjamaaDoorRows
import Derived.LaidSub
import Derived.Stop.LaidErr
import Derived.KernelRfl
import Derived.Test.YtohgfphbgpjamaaDoorParseImpl
namespace Go.Proofs.YtohgfphbgpjamaaDoor.DoorErrs

theorem gES : Tryd.prog.globalNamed "strconv.ErrSyntax" = some 0 := by kernel_rfl
theorem gER : Tryd.prog.globalNamed "strconv.ErrRange" = some 1 := by kernel_rfl
theorem gESType : (Tryd.prog.globals[0]?).map (·.type) = some 46 := by kernel_rfl
theorem gERType : (Tryd.prog.globals[1]?).map (·.type) = some 46 := by kernel_rfl
theorem cellsE : Tryd.prog.cellsOf 88 = 1 := by kernel_rfl
theorem cellsS : Tryd.prog.cellsOf 9 = 1 := by kernel_rfl
theorem star : "*" ++ "errors.errorString" = "*errors.errorString" := by decide
theorem rowE (u : TypeId) (h : Tryd.prog.typeName? 3 u = some "*errors.errorString") : u = 86 :=
  typeName_ptr_named (nm := "errors.errorString") (by rw [star]; kernel_rfl) (by kernel_rfl) (by decide) u (by rw [star]; exact h)
def keepSyn (x : String × DataW Unit) : Bool := x.1 == "strconv.ErrSyntax"
def keepRan (x : String × DataW Unit) : Bool := x.1 == "strconv.ErrRange"

theorem errs {l : List (String × DataW Unit)} {W : World} (h : laidMetH Tryd.prog l W) (h1 : l.filter keepSyn = [("strconv.ErrSyntax", Rows.laid_strconv_ErrSyntax)]) (h2 : l.filter keepRan = [("strconv.ErrRange", Rows.laid_strconv_ErrRange)]) : ParseImpl.Errs W := by
  have k1 := laidMetH.filter keepSyn h
  have k2 := laidMetH.filter keepRan h
  rw [h1] at k1
  rw [h2] at k2
  obtain ⟨a0, s0, hv0, -, -, -⟩ := laid_sentinel (r := []) k1 gES gESType Tryd.underlying46 rowE Tryd.underlying86 Tryd.underlying88 rfl rfl Tryd.underlying9 cellsE cellsS
  obtain ⟨a1, s1, hv1, -, -, -⟩ := laid_sentinel (r := []) k2 gER gERType Tryd.underlying46 rowE Tryd.underlying86 Tryd.underlying88 rfl rfl Tryd.underlying9 cellsE cellsS
  exact ⟨⟨_, _, hv0⟩, _, _, hv1⟩

end Go.Proofs.YtohgfphbgpjamaaDoor.DoorErrs
