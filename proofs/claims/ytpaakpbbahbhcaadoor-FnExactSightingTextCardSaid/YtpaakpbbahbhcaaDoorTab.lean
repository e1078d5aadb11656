/- The contract of strconv.Itoa in the words of the other contracts, and joins of texts. Condition of Itoa's: the library's table of powers of ten is as the library lays it. -/
import Derived.Test.YtpaakpbbahbhcaaDoorChecked
import Derived.Test.YtpaakpbbahbhcaaDoorShelf
import Derived.Test.YtpaakpbbahbhcaaDoorTurn
import Derived.Lib.AppendIntMem
import Derived.Lib.Hide
import Derived.WalkKit
import Derived.WalkSpells
namespace Go.Proofs.YtpaakpbbahbhcaaDoor.Tab
set_option linter.unusedVariables false
open Go.RowKit
open Go.Proofs.YtpaakpbbahbhcaaDoor.Rowed Go.Proofs.YtpaakpbbahbhcaaDoor.Turn

abbrev Tab (w : World) : Prop := Lib.TabIs Tryd.prog w "internal/strconv.uint64pow10" .u64 Lib.pow10Tab
theorem var_below {W W' : World} {n : String} {cs : Array Value} (h : Below W.heap.size W W') (hv : W.var? Tryd.prog n = some cs) : W'.var? Tryd.prog n = some cs := by
  unfold World.var? at hv ⊢
  cases hg : Tryd.prog.globalNamed n with
  | none => simp [hg] at hv
  | some g =>
    simp only [hg, Option.bind_some] at hv ⊢
    by_cases hlt : g < W.heap.size
    · rw [h.block g hlt]; exact hv
    · rw [Array.getElem?_eq_none (by omega)] at hv; simp at hv
theorem tab_below {W W' : World} (h : Below W.heap.size W W') (ht : Hid (Tab W)) : Hid (Tab W') := var_below h ht

def str (l : List UInt8) : ByteArray := ⟨l.toArray⟩
theorem itoa_any (n : Int) (h0 : -9223372036854775808 ≤ n) (h1 : n ≤ 9223372036854775807) (w : World) (ht : Hid (Tab w)) :
    Calls Tryd.prog 14 #[.int .i64 n] w fun e w' => e = .returned (.string ⟨(Lib.itoa n).toArray⟩) ∧ Below w.heap.size w w' := by
  refine (Tryd.strconv_Itoa n h0 h1 _ ht.out).mono ?_
  rintro e w' ⟨rfl, m, os, rfl⟩
  exact ⟨rfl, Lib.below_grow _ _ (Nat.le_refl _) m os⟩
/-- '+' on two texts -/
theorem cat {P : Program} (a b : ByteArray) (l : List UInt8) (h : a.data.toList ++ b.data.toList = l) (hl : l.length ≤ 9223372036854775807) (W : World) :
    (Op.stringOp .add a b).run P W = .ok (.string ⟨l.toArray⟩) W := by
  have e1 : a.data.toList.length = a.size := by simp
  have e2 : b.data.toList.length = b.size := by simp
  rw [← h, List.length_append, e1, e2] at hl
  rw [run_string_add_sum]
  · congr 2
    apply ByteArray.ext
    rw [← h]
    apply Array.ext'
    simp
  · exact hl
theorem size_mk (l : List UInt8) : (⟨l.toArray⟩ : ByteArray).size = l.length := by show l.toArray.size = l.length; simp
theorem list_mk (l : List UInt8) : (⟨l.toArray⟩ : ByteArray).data.toList = l := rfl
theorem str_of {c : ByteArray} {l : List UInt8} (h : c.data.toList = l) : c = str l := by
  apply ByteArray.ext
  unfold str
  rw [← h]
/-- '+' on two texts: the sum under a name of its own -/
theorem join {P : Program} (a b : ByteArray) (h : a.size + b.size ≤ 9223372036854775807) :
    ∃ c : ByteArray, c.size = a.size + b.size ∧ Hid (c.data.toList = a.data.toList ++ b.data.toList) ∧ ∀ W, (Op.stringOp .add a b).run P W = .ok (.string c) W := by
  have e1 : a.data.toList.length = a.size := by simp
  have e2 : b.data.toList.length = b.size := by simp
  refine ⟨⟨(a.data.toList ++ b.data.toList).toArray⟩, by rw [size_mk, List.length_append, e1, e2], Lib.hid (list_mk _), fun W => cat a b _ rfl (by rw [List.length_append, e1, e2]; exact h) W⟩
end Go.Proofs.YtpaakpbbahbhcaaDoor.Tab
