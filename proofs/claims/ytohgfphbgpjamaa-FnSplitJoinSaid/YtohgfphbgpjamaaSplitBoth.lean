/- The contracts of spec.SplitString and impl.SplitString in one form, at every string and separator. Condition: the strings have at most 1048576 bytes. -/
import Derived.Test.YtohgfphbgpjamaaSplitImpl
import Derived.Test.YtohgfphbgpjamaaSplit
import Derived.Test.YtohgfphbgpjamaaMarkStr
namespace Go.Proofs.Ytohgfphbgpjamaa.SplitBoth
set_option linter.unusedVariables false
open Go.RowKit
open Go.Proofs.Ytohgfphbgpjamaa.Rowed Go.Proofs.Ytohgfphbgpjamaa.PlainSplit Go.Proofs.Ytohgfphbgpjamaa.HelpStr

/-- how splitting ends -/
def Sr (s sep : ByteArray) (l : List ByteArray) (b : Bool) : Prop :=
  (b = true ∧ ∃ c, sep = ⟨#[c]⟩ ∧ s.size ≤ 4000 ∧ l = split s c) ∨ (b = false ∧ l = [] ∧ ¬ (sep.size = 1 ∧ s.size ≤ 4000))
theorem Sr.uniq {s sep : ByteArray} {l l' : List ByteArray} {b b' : Bool} (h : Sr s sep l b) (k : Sr s sep l' b') : l = l' ∧ b = b' := by
  rcases h with ⟨rfl, c, h1, h2, h3⟩ | ⟨rfl, h1, h2⟩ <;> rcases k with ⟨rfl, d, k1, k2, k3⟩ | ⟨rfl, k1, k2⟩
  · obtain rfl : c = d := by rw [h1] at k1; injection k1 with e; simpa using e
    exact ⟨h3.trans k3.symm, rfl⟩
  · exact absurd ⟨by rw [h1]; rfl, h2⟩ k2
  · exact absurd ⟨by rw [k1]; rfl, k2⟩ h2
  · exact ⟨h1.trans k1.symm, rfl⟩
theorem Sr.len {s sep : ByteArray} {l : List ByteArray} {b : Bool} (h : Sr s sep l b) : l.length ≤ 4001 := by
  rcases h with ⟨_, c, h1, h2, rfl⟩ | ⟨_, rfl, _⟩
  · have := (split_len s c).2; omega
  · simp

def SpPost (s sep : ByteArray) (w : World) (e : Ending) (w' : World) : Prop :=
  ∃ g cap l b, e = .returned (.tuple #[.slice (some ⟨g, 0, none⟩) (l : List ByteArray).length cap, .bool b]) ∧ Sr s sep l b ∧
    w'.ownsRow w.heap.size 9 1 (.slice (some ⟨g, 0, none⟩) l.length cap) l.length (l.map Value.string) ∧ g < w'.heap.size ∧ w.heap.size ≤ g ∧ Below w.heap.size w w'

theorem own_at {w : World} {base n g c : Nat} {e : TypeId} {xs : List Value} (h : w.ownsRow base e 1 (.slice (some ⟨g, 0, none⟩) n c) n xs) : base ≤ g ∧ g < w.heap.size := h.lt g rfl

theorem sep_one {sep : ByteArray} (h : sep.size = 1) : ∃ b, sep = ⟨#[b]⟩ := by
  obtain ⟨⟨l⟩⟩ := sep
  match l, h with
  | [b], _ => exact ⟨b, rfl⟩

theorem spec_yes (s : ByteArray) (b : UInt8) (w : World) (hs : s.size ≤ 4000) :
    Calls Try.prog 17 #[.string s, .string ⟨#[b]⟩] w (SplitImpl.SplPost s b w) := by
  go_enter Try.func17, Try.ntmps17
  go_wp2_with (go_at_call 33; refine (Split.l1Split_any s b w (by omega)).mono ?_; rintro e w1 ⟨g, cap, rfl, hO, hB⟩; have HO := Lib.hid hO; clear hO)
  go_ret2
  exact ⟨g, cap, rfl, HO.out, hB⟩

theorem spec_no (s sep : ByteArray) (w : World) (h : ¬ (sep.size = 1 ∧ s.size ≤ 4000)) (h1 : s.size ≤ 1048576) (h2 : sep.size ≤ 1048576) :
    Calls Try.prog 17 #[.string s, .string sep] w (SpPost s sep w) := by
  have HN := Lib.hid h
  have O := Lib.hid (SplitImpl.owns_empty w 9)
  by_cases h3 : sep.size = 1
  · have h4 : 4000 < s.size := by omega
    have h5 : ((sep.size : Int) != 1) = false := by rw [h3]; rfl
    clear h
    go_enter Try.func17, Try.ntmps17
    go_wp2_with fail
    go_ret2
    exact ⟨_, _, [], false, rfl, .inr ⟨rfl, rfl, HN.out⟩, O.out, (own_at O.out).2, (own_at O.out).1, (Below.refl _ _).alloc (Nat.le_refl _) _⟩
  · have h5 : ((sep.size : Int) != 1) = true := by rw [bne_iff_ne]; omega
    clear h h3
    go_enter Try.func17, Try.ntmps17
    go_wp2_with fail
    go_ret2
    exact ⟨_, _, [], false, rfl, .inr ⟨rfl, rfl, HN.out⟩, O.out, (own_at O.out).2, (own_at O.out).1, (Below.refl _ _).alloc (Nat.le_refl _) _⟩

theorem impl_no (s sep : ByteArray) (w : World) (h : ¬ (sep.size = 1 ∧ s.size ≤ 4000)) (h1 : s.size ≤ 1048576) (h2 : sep.size ≤ 1048576) :
    Calls Try.prog 10 #[.string s, .string sep] w (SpPost s sep w) := by
  have HN := Lib.hid h
  have O := Lib.hid (SplitImpl.owns_empty w 9)
  by_cases h3 : s.size ≤ 4000
  · have h5 : ((sep.size : Int) != 1) = true := by rw [bne_iff_ne]; omega
    clear h
    go_enter Try.func10, Try.ntmps10
    go_wp2_with fail
    go_ret2
    exact ⟨_, _, [], false, rfl, .inr ⟨rfl, rfl, HN.out⟩, O.out, (own_at O.out).2, (own_at O.out).1, (Below.refl _ _).alloc (Nat.le_refl _) _⟩
  · have h4 : 4000 < s.size := by omega
    clear h h3
    go_enter Try.func10, Try.ntmps10
    go_wp2_with fail
    go_ret2
    exact ⟨_, _, [], false, rfl, .inr ⟨rfl, rfl, HN.out⟩, O.out, (own_at O.out).2, (own_at O.out).1, (Below.refl _ _).alloc (Nat.le_refl _) _⟩

theorem post_of {s : ByteArray} {c : UInt8} {w : World} {e : Ending} {w' : World} (hs : s.size ≤ 4000) (h : SplitImpl.SplPost s c w e w') : SpPost s ⟨#[c]⟩ w e w' := by
  obtain ⟨g, cap, he, hO, hB⟩ := h
  exact ⟨g, cap, split s c, true, he, .inl ⟨rfl, c, rfl, hs, rfl⟩, hO, (own_at hO).2, (own_at hO).1, hB⟩

theorem spec_any (s sep : ByteArray) (w : World) (h1 : s.size ≤ 1048576) (h2 : sep.size ≤ 1048576) : Calls Try.prog 17 #[.string s, .string sep] w (SpPost s sep w) := by
  by_cases h : sep.size = 1 ∧ s.size ≤ 4000
  · obtain ⟨c, rfl⟩ := sep_one h.1
    exact (spec_yes s c w h.2).mono fun e w' k => post_of h.2 k
  · exact spec_no s sep w h h1 h2
theorem impl_any (s sep : ByteArray) (w : World) (h1 : s.size ≤ 1048576) (h2 : sep.size ≤ 1048576) : Calls Try.prog 10 #[.string s, .string sep] w (SpPost s sep w) := by
  by_cases h : sep.size = 1 ∧ s.size ≤ 4000
  · obtain ⟨c, rfl⟩ := sep_one h.1
    exact ((callsIn_wide (n := 3)).1 (SplitImpl.split_in 3 (Nat.le_refl _) s c h.2 w)).mono fun e w' k => post_of h.2 k
  · exact impl_no s sep w h h1 h2
end Go.Proofs.Ytohgfphbgpjamaa.SplitBoth
