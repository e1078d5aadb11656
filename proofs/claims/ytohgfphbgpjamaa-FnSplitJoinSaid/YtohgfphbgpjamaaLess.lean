/- The contracts of impl.LessString and spec.LessString: the order of the bytes, which holds in one direction at most. No condition. -/
import Derived.Test.YtohgfphbgpjamaaChecked
import Derived.WalkKit
import Derived.Outline
namespace Go.Proofs.Ytohgfphbgpjamaa.Less
set_option linter.unusedVariables false
open Go.RowKit

def lt (a b : ByteArray) : Bool := Op.bytesLess a.toList b.toList
theorem bl_asymm : ∀ x y, Op.bytesLess x y = true → Op.bytesLess y x = false
  | [], [], h => by simp [Op.bytesLess] at h
  | [], b :: y, _ => by simp [Op.bytesLess]
  | a :: x, [], h => by simp [Op.bytesLess] at h
  | a :: x, b :: y, h => by
    simp only [Op.bytesLess, Bool.or_eq_true, decide_eq_true_eq, Bool.and_eq_true, beq_iff_eq] at h
    rcases h with h | ⟨rfl, h⟩
    · have h1 : ¬ b < a := fun k => by rw [UInt8.lt_iff_toNat_lt] at h k; omega
      have h2 : b ≠ a := fun k => by subst k; rw [UInt8.lt_iff_toNat_lt] at h; omega
      simp [Op.bytesLess, h1, h2]
    · have h1 : ¬ a < a := fun k => by rw [UInt8.lt_iff_toNat_lt] at k; omega
      simp [Op.bytesLess, bl_asymm x y h]
theorem lt_asymm {a b : ByteArray} (h : lt a b = true) : lt b a = false := bl_asymm _ _ h

theorem implLess (a b : ByteArray) (r : Bool) (h : lt a b = r) (w : World) :
    Calls Try.prog 15 #[.string a, .string b] w fun e w' => e = .returned (.bool r) ∧ w = w' := by
  subst h
  go_enter Try.func15, Try.ntmps15
  go_wp2_with fail
  go_ret
  exact ⟨rfl, rfl⟩
theorem specLess (a b : ByteArray) (r : Bool) (h : lt a b = r) (w : World) :
    Calls Try.prog 16 #[.string a, .string b] w fun e w' => e = .returned (.bool r) ∧ w = w' := by
  subst h
  go_enter Try.func16, Try.ntmps16
  go_wp2_with fail
  go_ret
  exact ⟨rfl, rfl⟩
end Go.Proofs.Ytohgfphbgpjamaa.Less
