/- The walk of the law FnExactSplitString: it returns true and writes nothing that was there. Condition: the strings have at most maxLen bytes. -/
import Derived.Test.YtohgfphbgpjamaaSplitBoth
namespace Go.Proofs.Ytohgfphbgpjamaa.SplitLaw
set_option linter.unusedVariables false
open Go.RowKit
open Go.Proofs.Ytohgfphbgpjamaa.Rowed Go.Proofs.Ytohgfphbgpjamaa.PlainSplit Go.Proofs.Ytohgfphbgpjamaa.HelpStr Go.Proofs.Ytohgfphbgpjamaa.MarkStr Go.Proofs.Ytohgfphbgpjamaa.SplitBoth

theorem strs_grown {w w' : World} {gA gB n : Nat} {l : List ByteArray} (h : Strs w (some ⟨gA, 0, none⟩) n l) (hg : w.grownBy w' (some gB)) (hne : gA ≠ gB) : Strs w' (some ⟨gA, 0, none⟩) n l :=
  ⟨h.1, fun hn => by
    obtain ⟨ad, e, hc⟩ := h.2 hn
    injection e with e
    subst e
    exact ⟨_, rfl, fun j u hu => hg.cell (hc j u hu) (by rw [add_block]; intro e; injection e with e; exact hne e)⟩⟩
theorem own_below {w w' : World} {base n g c : Nat} {e : TypeId} {xs : List Value} (h : w.ownsRow base e 1 (.slice (some ⟨g, 0, none⟩) n c) n xs) (hb : Below w.heap.size w w') : w'.ownsRow base e 1 (.slice (some ⟨g, 0, none⟩) n c) n xs :=
  h.kept (grown_of hb) (.inr (by simp [Value.ownBlock]))

set_option maxRecDepth 100000 in
set_option maxHeartbeats 2000000 in
theorem law_any (s sep : ByteArray) (w : World) (h1 : s.size ≤ 9223372036854775807) (h2 : sep.size ≤ 9223372036854775807) :
    Calls Try.prog 4 #[.string s, .string sep] w fun e w' => e = .returned (.bool true) ∧ Below w.heap.size w w' := by
  by_cases hs : 1048576 < s.size
  · go_enter Try.func4, Try.ntmps4
    go_wp2_with fail
    go_ret
    exact ⟨rfl, Below.refl _ _⟩
  · by_cases hp : 1048576 < sep.size
    · go_enter Try.func4, Try.ntmps4
      go_wp2_with fail
      go_ret
      exact ⟨rfl, Below.refl _ _⟩
    · have hs' : s.size ≤ 1048576 := by omega
      have hp' : sep.size ≤ 1048576 := by omega
      clear hs hp
      go_enter Try.func4, Try.ntmps4
      go_wp2_with fail
      go_at_call 17
      refine (spec_any s sep w hs' hp').mono ?_
      rintro e w1 ⟨gA, cA, l, b, rfl, hSr, hOA, hA1, hA2, hB1⟩
      have SR := Lib.hid hSr
      have SA1 := Lib.hid (strs_own hOA)
      have B1 := Lib.hid hB1
      have hlen : l.length ≤ 4001 := hSr.len
      clear hSr hOA hB1
      go_wp2_with fail
      go_at_call 10
      refine (impl_any s sep w1 hs' hp').mono ?_
      rintro e w2 ⟨gB, cB, l', b', rfl, hSr, hOB, hB1', hB2', hBB⟩
      obtain ⟨rfl, rfl⟩ := SR.out.uniq hSr
      have OB2 := Lib.hid hOB
      have SB2 := Lib.hid (strs_own hOB)
      have SA2 := Lib.hid (SA1.out.below hBB)
      have B2 := Lib.hid (Below.step B1.out hBB)
      have NE : Hid (gA ≠ gB) := Lib.hid (by omega)
      have GB : Hid (w.heap.size ≤ gB) := Lib.hid (by have := B1.out.size; omega)
      clear hSr hOB hBB SA1 B1
      go_wp2_with fail
      go_at_call 18
      refine (eq_same _ _ _ _ _ l w2 SB2.out SA2.out (by omega)).mono ?_
      rintro e w3 ⟨rfl, hD3⟩
      have OB3 := Lib.hid (own_below OB2.out hD3.below)
      have SA3 := Lib.hid (SA2.out.below hD3.below)
      have B3 := Lib.hid (Below.step B2.out hD3.below)
      clear hD3 OB2 SB2 SA2 B2
      go_wp2_with fail
      go_at_call 19
      refine (mark_any w3 _ gB l.length cB 1 _ OB3.out (by omega) (by omega) (by omega)).mono ?_
      rintro e w4 ⟨rfl, hO4, hG4⟩
      have O4 := Lib.hid hO4
      have SA4 := Lib.hid (strs_grown SA3.out hG4 NE.out)
      have B4 := Lib.hid (B3.out.grown hG4 B3.out.size (by intro k e; injection e with e; have := GB.out; omega))
      clear hO4 hG4 OB3 SA3 B3
      go_wp2_with fail
      go_at_call 20
      refine (held_any w4 _ gB l.length cB 1 O4.out (by omega) (by omega) (by omega)).mono ?_
      rintro e w5 ⟨rfl, hB5⟩
      have O5 := Lib.hid (own_below O4.out hB5)
      have SA5 := Lib.hid (SA4.out.below hB5)
      have B5 := Lib.hid (Below.step B4.out hB5)
      clear hB5 O4 SA4 B4
      go_wp2_with fail
      go_at_call 10
      refine (impl_any s sep w5 hs' hp').mono ?_
      rintro e w6 ⟨gC, cC, l', b', rfl, hSr, hOC, hC1, hC2, hBC⟩
      obtain ⟨rfl, rfl⟩ := SR.out.uniq hSr
      have SC6 := Lib.hid (strs_own hOC)
      have SA6 := Lib.hid (SA5.out.below hBC)
      have O6 := Lib.hid (own_below O5.out hBC)
      have B6 := Lib.hid (Below.step B5.out hBC)
      clear hSr hOC hBC SA5 O5 B5
      go_wp2_with fail
      go_at_call 18
      refine (eq_same _ _ _ _ _ l w6 SC6.out SA6.out (by omega)).mono ?_
      rintro e w7 ⟨rfl, hD7⟩
      have O7 := Lib.hid (own_below O6.out hD7.below)
      have B7 := Lib.hid (Below.step B6.out hD7.below)
      clear hD7 O6 SC6 SA6 B6
      go_wp2_with fail
      go_at_call 20
      refine (held_any w7 _ gB l.length cB 1 O7.out (by omega) (by omega) (by omega)).mono ?_
      rintro e w8 ⟨rfl, hB8⟩
      have B8 := Lib.hid (Below.step B7.out hB8)
      clear hB8 O7 B7
      go_wp2_with fail
      go_ret
      exact ⟨rfl, B8.out⟩
end Go.Proofs.Ytohgfphbgpjamaa.SplitLaw
