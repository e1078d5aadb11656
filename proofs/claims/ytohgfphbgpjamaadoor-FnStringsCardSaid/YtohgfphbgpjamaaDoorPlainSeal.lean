/- Plain facts on checksummed strings: what a sealed string is, and that sealing ends in one way. No condition. -/
import Derived.Test.YtohgfphbgpjamaaDoorPlainSum
import Derived.Test.YtohgfphbgpjamaaDoorPlainNum
namespace Go.Proofs.YtohgfphbgpjamaaDoor.PlainSeal
open Go.Proofs.YtohgfphbgpjamaaDoor.PlainSum Go.Proofs.YtohgfphbgpjamaaDoor.PlainNum

def sealed (l : List UInt8) : List UInt8 := l ++ 35 :: Lib.itoa (ck l)
def Ok (l : List UInt8) : Prop := l.length ≤ 4000 ∧ (35 : UInt8) ∉ l ∧ (sealed l).length ≤ 4000
/-- how sealing ends -/
def Sl (l t : List UInt8) (b : Bool) : Prop := (b = true ∧ Ok l ∧ t = sealed l) ∨ (b = false ∧ t = [] ∧ ¬ Ok l)

theorem Sl.uniq {l t t' : List UInt8} {b b' : Bool} (h : Sl l t b) (k : Sl l t' b') : t = t' ∧ b = b' := by
  rcases h with ⟨rfl, h1, h2⟩ | ⟨rfl, h1, h2⟩ <;> rcases k with ⟨rfl, k1, k2⟩ | ⟨rfl, k1, k2⟩
  · exact ⟨h2.trans k2.symm, rfl⟩
  · exact absurd h1 k2
  · exact absurd k1 h2
  · exact ⟨h1.trans k1.symm, rfl⟩

theorem ck_num (l : List UInt8) : -999999 ≤ ck l ∧ ck l ≤ 999999 := by have := ck_bd l; omega

theorem sealed_len (l : List UInt8) : l.length + 2 ≤ (sealed l).length ∧ (sealed l).length ≤ l.length + 8 := by
  have h := itoa_len (ck l) (ck_num l).1 (ck_num l).2
  unfold sealed
  rw [List.length_append, List.length_cons]
  omega

theorem ext_of {a b : ByteArray} (h : a.data.toList = b.data.toList) : a = b := by
  obtain ⟨⟨x⟩⟩ := a
  obtain ⟨⟨y⟩⟩ := b
  simp at h
  rw [h]

end Go.Proofs.YtohgfphbgpjamaaDoor.PlainSeal
