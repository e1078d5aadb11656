/- FormatInt's contracts in one form: the numeral and true within the bounds, else the empty string and false. Condition for impl: the library's table of powers of ten is as the library lays it. -/
import Derived.Test.YtohgfphbgpjamaaDoorFmt
namespace Go.Proofs.YtohgfphbgpjamaaDoor.FmtPost
set_option linter.unusedVariables false
open Go.RowKit
open Go.Proofs.YtohgfphbgpjamaaDoor.Fmt

def Fm (n : Int) (s : ByteArray) (b : Bool) : Prop := (b = true ∧ -999999 ≤ n ∧ n ≤ 999999 ∧ s = ⟨(Lib.itoa n).toArray⟩) ∨ (b = false ∧ (n < -999999 ∨ 999999 < n) ∧ s = ⟨#[]⟩)
theorem Fm.uniq {n : Int} {s s' : ByteArray} {b b' : Bool} (h : Fm n s b) (k : Fm n s' b') : s = s' ∧ b = b' := by
  rcases h with ⟨rfl, h1, h2, h3⟩ | ⟨rfl, h1, h2⟩ <;> rcases k with ⟨rfl, k1, k2, k3⟩ | ⟨rfl, k1, k2⟩
  · exact ⟨h3.trans k3.symm, rfl⟩
  · omega
  · omega
  · exact ⟨h2.trans k2.symm, rfl⟩
def FmtPost (n : Int) (w : World) (e : Ending) (w' : World) : Prop := ∃ s b, e = .returned (.tuple #[.string s, .bool b]) ∧ Fm n s b ∧ Below w.heap.size w w'

theorem specFmt (n : Int) (w : World) : Calls Tryd.prog 11 #[.int .i64 n] w (FmtPost n w) := by
  by_cases h : -999999 ≤ n ∧ n ≤ 999999
  · exact (specFormatInt_ok n w h.1 h.2).mono fun e w' ⟨he, m, hw⟩ => ⟨_, _, he, .inl ⟨rfl, h.1, h.2, rfl⟩, by rw [hw]; exact ⟨rfl, rfl, rfl, Nat.le_refl _, fun _ _ => rfl⟩⟩
  · have h' : n < -999999 ∨ 999999 < n := by omega
    exact (specFormatInt_no n w h').mono fun e w' ⟨he, hw⟩ => ⟨_, _, he, .inr ⟨rfl, h', rfl⟩, by rw [← hw]; exact Below.refl _ _⟩
theorem implFmt (n : Int) (w : World) (ht : Hid (Tab w)) : Calls Tryd.prog 10 #[.int .i64 n] w (FmtPost n w) := by
  by_cases h : -999999 ≤ n ∧ n ≤ 999999
  · exact (implFormatInt_ok n w h.1 h.2 ht).mono fun e w' ⟨he, hB⟩ => ⟨_, _, he, .inl ⟨rfl, h.1, h.2, rfl⟩, hB⟩
  · have h' : n < -999999 ∨ 999999 < n := by omega
    exact (implFormatInt_no n w h').mono fun e w' ⟨he, hw⟩ => ⟨_, _, he, .inr ⟨rfl, h', rfl⟩, by rw [← hw]; exact Below.refl _ _⟩
end Go.Proofs.YtohgfphbgpjamaaDoor.FmtPost
