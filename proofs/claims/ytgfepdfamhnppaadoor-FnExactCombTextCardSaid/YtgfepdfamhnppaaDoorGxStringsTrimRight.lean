/- strings.TrimRight at a set of one ASCII letter as a plain function; the contract of the program's. No condition. -/
import Derived.Test.YtgfepdfamhnppaaDoorGoM
import Derived.Test.YtgfepdfamhnppaaDoorShelf
namespace Go.Proofs.YtgfepdfamhnppaaDoor.GxStringsTrimRight
set_option linter.unusedVariables false
open Go.RowKit
open Go.Proofs.YtgfepdfamhnppaaDoor.Turn
def P (s c : ByteArray) : Option ByteArray := match c.data.toList with
  | [x] => if x.toNat < 128 ∧ s.size ≤ 9223372036854775807 then some ⟨(Lib.trimRightB s.data.toList x).toArray⟩ else none
  | _ => none
theorem C (s c : ByteArray) (w : World) {r : ByteArray} (H : Hid (P s c = some r)) : Calls Tryd.prog 16 #[.string s, .string c] w (Gives (.string r) w) := by
  have h : P s c = some r := H
  unfold P at h
  split at h
  · rename_i x hx
    by_cases hk : x.toNat < 128 ∧ s.size ≤ 9223372036854775807
    · rw [if_pos hk] at h
      obtain rfl := Option.some.inj h
      have hc : c = ⟨#[x]⟩ := by
        obtain ⟨⟨l⟩⟩ := c
        simp only at hx
        subst hx; rfl
      rw [hc]
      refine (Tryd.strings_TrimRight_one s x hk.1 w hk.2).mono ?_
      rintro e w' ⟨rfl, rfl⟩
      exact ⟨rfl, Below.refl _ _⟩
    · rw [if_neg hk] at h; simp at h
  · simp at h
end Go.Proofs.YtgfepdfamhnppaaDoor.GxStringsTrimRight
