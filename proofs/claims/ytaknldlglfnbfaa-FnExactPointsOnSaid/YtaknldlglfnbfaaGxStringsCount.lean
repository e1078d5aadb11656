/- strings.Count at one letter as a plain function; the contract of the program's. No condition. -/
import Derived.Test.YtaknldlglfnbfaaGoM
import Derived.Test.YtaknldlglfnbfaaShelf
namespace Go.Proofs.Ytaknldlglfnbfaa.GxStringsCount
set_option linter.unusedVariables false
open Go.RowKit
open Go.Proofs.Ytaknldlglfnbfaa.Turn
def P (s c : ByteArray) : Option Int := match c.data.toList with
  | [x] => some (Lib.countByte s.data.toList x : Int)
  | _ => none
theorem C (s c : ByteArray) (w : World) {r : Int} (H : Hid (P s c = some r)) : Calls Try.prog 132 #[.string s, .string c] w (Gives (.int .i64 r) w) := by
  have h : P s c = some r := H
  unfold P at h
  split at h
  · rename_i x hx
    obtain rfl := Option.some.inj h
    have hc : c = ⟨#[x]⟩ := by
      obtain ⟨⟨l⟩⟩ := c
      simp only at hx
      subst hx; rfl
    rw [hc]
    refine (Try.strings_Count_one s x w).mono ?_
    rintro e w' ⟨rfl, rfl⟩
    exact ⟨rfl, Below.refl _ _⟩
  · simp at h
end Go.Proofs.Ytaknldlglfnbfaa.GxStringsCount
