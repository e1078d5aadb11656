/- The walk of the law FnSplitJoin: it returns true and writes nothing that was there. Condition: its bytes read as bytes. -/
import Derived.Test.YtohgfphbgpjamaaSplitBoth
import Derived.Test.YtohgfphbgpjamaaPlainBack
import Derived.Test.YtohgfphbgpjamaaJoin
import Derived.Test.YtohgfphbgpjamaaDrawSplit
import Derived.Test.YtohgfphbgpjamaaLawHelp
import Derived.Test.YtohgfphbgpjamaaLess
import Derived.Outline
namespace Go.Proofs.Ytohgfphbgpjamaa.JoinLaw
set_option linter.unusedVariables false
open Go.RowKit
open Go.Proofs.Ytohgfphbgpjamaa.Rowed Go.Proofs.Ytohgfphbgpjamaa.Cursor Go.Proofs.Ytohgfphbgpjamaa.CurMore Go.Proofs.Ytohgfphbgpjamaa.LawHelp Go.Proofs.Ytohgfphbgpjamaa.PlainSplit Go.Proofs.Ytohgfphbgpjamaa.PlainJoin Go.Proofs.Ytohgfphbgpjamaa.PlainBack Go.Proofs.Ytohgfphbgpjamaa.SplitBoth Go.Proofs.Ytohgfphbgpjamaa.Less

/-- what stands through the whole law: the bytes are where they were -/
def Base (w0 W : World) : Prop := Below w0.heap.size w0 W
theorem Base.next {w0 W W' : World} (h : Base w0 W) (hb : Below W.heap.size W W') : Base w0 W' := Below.step h hb
theorem code_at {w0 W : World} {A : Option Addr} {n : Nat} (hc : ByteCode w0 w0.heap.size A n) (h : Base w0 W) : ByteCode W W.heap.size A n :=
  ByteCode.widen (ByteCode.below hc h) h.size
theorem ext_of {a b : ByteArray} (h : a.data.toList = b.data.toList) : a = b := by
  obtain ⟨⟨x⟩⟩ := a
  obtain ⟨⟨y⟩⟩ := b
  simp at h
  rw [h]
theorem le_sum (l : List ByteArray) : ∀ x ∈ l, x.size ≤ (l.map ByteArray.size).sum := by
  induction l with
  | nil => intro x hx; simp at hx
  | cons y r ih =>
    intro x hx
    rw [List.map_cons, List.sum_cons]
    rcases List.mem_cons.1 hx with rfl | h
    · omega
    · have := ih x h; omega
theorem piece_le (s : ByteArray) (c : UInt8) (hs : s.size ≤ 10) : ∀ x ∈ split s c, x.size ≤ 1048576 := by
  intro x hx
  have h1 := le_sum _ x hx
  have h2 := full_len (split s c) c (split_len s c).1
  rw [(split_back s c).1] at h2
  have : s.data.toList.length = s.size := by simp
  omega
theorem sr_no {s sep : ByteArray} {l : List ByteArray} {b : Bool} (h : Sr s sep l b) (hs : sep.size ≠ 1) : l = [] ∧ b = false := by
  rcases h with ⟨_, c, rfl, _⟩ | ⟨h1, h2, _⟩
  · exact absurd rfl hs
  · exact ⟨h2, h1⟩
theorem sr_yes {s sep : ByteArray} {l : List ByteArray} {b : Bool} (h : Sr s sep l b) (hs : sep.size = 1) (h1 : s.size ≤ 10) : b = true ∧ ∃ c, sep = ⟨#[c]⟩ ∧ l = split s c := by
  rcases h with ⟨h2, c, h3, _, h4⟩ | ⟨_, _, h2⟩
  · exact ⟨h2, c, h3, h4⟩
  · exact absurd ⟨hs, by omega⟩ h2
theorem back_of {s t : ByteArray} {c : UInt8} {b : Bool} (h : Jn (split s c) (ByteArray.mk #[c]).data.toList t.data.toList b) (hs : s.size ≤ 10) : t = s ∧ b = true := by
  have := h.uniq (split_jn s c (by omega))
  exact ⟨ext_of this.1, this.2⟩

set_option maxRecDepth 100000 in
set_option maxHeartbeats 4000000 in
theorem law_any (w : World) (A : Option Addr) (n0 c0 : Nat) (hc : ByteCode w w.heap.size A n0) (hn0 : n0 ≤ 9223372036854775807) :
    Calls Try.prog 3 #[.slice A n0 c0] w fun e w' => e = .returned (.bool true) ∧ Below w.heap.size w w' := by
  have HC : Hid (ByteCode w w.heap.size A n0) := Lib.hid hc
  have HB0 : Hid (Base w w) := Lib.hid (Below.refl _ _)
  clear hc
  by_cases hbig : 65536 < n0
  · go_enter Try.func3, Try.ntmps3
    go_wp2_with (go_at_call 8; refine (vBig_yes _ A n0 c0 hbig hn0).mono ?_; rintro e w' ⟨rfl, rfl⟩)
    go_ret
    exact ⟨rfl, Below.refl _ _⟩
  · have hn : n0 ≤ 65536 := by omega
    clear hbig
    go_enter Try.func3, Try.ntmps3
    go_wp2_with (go_at_call 8; refine (vBig_no _ A n0 c0 hn).mono ?_; rintro e w' ⟨rfl, rfl⟩)
    go_at_call 9
    refine (DrawSplit.drawSplit_any w A n0 c0 HC.out hn0).mono ?_
    rintro e w1 ⟨s, sep, rfl, hs, hsep, hB1⟩
    have HB1 := Lib.hid (HB0.out.next hB1)
    clear hB1 HB0
    go_wp2_with fail
    go_at_call 10
    refine (impl_any s sep w1 (by omega) (by omega)).mono ?_
    rintro e w2 ⟨gL, cL, l, ok, rfl, hSr, hOL, _, _, hB2⟩
    have SR := Lib.hid hSr
    have OL := Lib.hid (Join.own_of hOL)
    have CL : Hid (l.length ≤ cL) := Lib.hid (DrawSplit.own_cap hOL)
    have HB2 := Lib.hid (HB1.out.next hB2)
    have hll : l.length ≤ 4001 := hSr.len
    clear hB2 HB1 hSr hOL
    go_wp2_with fail
    go_at_call 11
    refine (DrawSplit.drawJoin_any w2 A n0 c0 (code_at HC.out HB2.out) hn0).mono ?_
    rintro e w3 ⟨gK, cK, k, mark, rfl, hOK, hCK, hk4, hkz, hm2, hB3⟩
    have OL3 := Lib.hid (fun h => (OL.out h).below hB3)
    have OK3 := Lib.hid (Join.own_of hOK)
    have CK := Lib.hid hCK
    have KZ : Hid (∀ x ∈ k, x.size ≤ 1048576) := Lib.hid (fun x hx => by have := hkz x hx; omega)
    have HB3 := Lib.hid (HB2.out.next hB3)
    clear hB3 HB2 hOK hCK hkz OL
    go_wp2_with fail
    go_at_call 12
    refine (Join.implJoin_any gK cK k mark w3 CK.out OK3.out (by omega) KZ.out (by omega)).mono ?_
    rintro e w4 ⟨j, fine, rfl, hJ, hB4⟩
    have J4 := Lib.hid hJ
    have OL4 := Lib.hid (fun h => (OL3.out h).below hB4)
    have OK4 := Lib.hid (fun h => (OK3.out h).below hB4)
    have HB4 := Lib.hid (HB3.out.next hB4)
    clear hB4 HB3 hJ OL3 OK3
    go_wp2_with fail
    go_at_call 13
    refine (Join.specJoin_any gK cK k mark w4 OK4.out (by omega) KZ.out (by omega)).mono ?_
    rintro e w5 ⟨j', fine', rfl, hJ, hB5⟩
    obtain ⟨hj, rfl⟩ := J4.out.uniq hJ
    obtain rfl := ext_of hj
    have OL5 := Lib.hid (fun h => (OL4.out h).below hB5)
    have HB5 := Lib.hid (HB4.out.next hB5)
    clear hB5 HB4 hJ OL4 OK4 hj J4 KZ
    go_wp2_with fail
    go_at_call 14
    refine (DrawSplit.drawLess_any w5 A n0 c0 (code_at HC.out HB5.out) hn0).mono ?_
    rintro e w6 ⟨a, b, rfl, ha, hb, hB6⟩
    have OL6 := Lib.hid (fun h => (OL5.out h).below hB6)
    have HB6 := Lib.hid (HB5.out.next hB6)
    clear hB6 HB5 OL5
    cases hlt : lt a b with
    | false =>
      have HLT := Lib.hid hlt
      clear hlt
      go_wp2_with fail
      go_at_call 15
      refine (implLess a b false HLT.out w6).mono ?_
      rintro e w' ⟨rfl, rfl⟩
      go_wp2_with fail
      go_at_call 16
      refine (specLess a b false HLT.out w6).mono ?_
      rintro e w' ⟨rfl, rfl⟩
      go_wp2_with fail
      go_at_call 15
      refine (implLess a b false HLT.out w6).mono ?_
      rintro e w' ⟨rfl, rfl⟩
      by_cases h1 : sep.size = 1
      · obtain ⟨rfl, c, rfl, rfl⟩ := sr_yes SR.out h1 hs
        have PZ := Lib.hid (piece_le s c hs)
        go_wp2_with fail
        go_at_call 12
        refine (Join.implJoin_any gL cL (split s c) ⟨#[c]⟩ w6 CL.out OL6.out (by omega) PZ.out (show (1 : Nat) ≤ 1048576 by omega)).mono ?_
        rintro e w7 ⟨back, there, rfl, hJ, hB7⟩
        obtain ⟨rfl, rfl⟩ := back_of hJ hs
        have HB7 := Lib.hid (HB6.out.next hB7)
        clear hB7 HB6 hJ
        go_wp2_with fail
        go_ret
        exact ⟨rfl, HB7.out⟩
      · obtain ⟨rfl, rfl⟩ := sr_no SR.out h1
        have h5 : ((sep.size : Int) != 1) = true := by rw [bne_iff_ne]; omega
        clear h1
        go_wp2_with fail
        go_ret
        exact ⟨rfl, HB6.out⟩
    | true =>
      have HLT := Lib.hid hlt
      clear hlt
      go_wp2_with fail
      go_at_call 15
      refine (implLess a b true HLT.out w6).mono ?_
      rintro e w' ⟨rfl, rfl⟩
      go_wp2_with fail
      go_at_call 16
      refine (specLess a b true HLT.out w6).mono ?_
      rintro e w' ⟨rfl, rfl⟩
      go_wp2_with fail
      go_at_call 15
      refine (implLess a b true HLT.out w6).mono ?_
      rintro e w' ⟨rfl, rfl⟩
      go_wp2_with fail
      go_at_call 15
      refine (implLess b a false (lt_asymm HLT.out) w6).mono ?_
      rintro e w' ⟨rfl, rfl⟩
      by_cases h1 : sep.size = 1
      · obtain ⟨rfl, c, rfl, rfl⟩ := sr_yes SR.out h1 hs
        have PZ := Lib.hid (piece_le s c hs)
        go_wp2_with fail
        go_at_call 12
        refine (Join.implJoin_any gL cL (split s c) ⟨#[c]⟩ w6 CL.out OL6.out (by omega) PZ.out (show (1 : Nat) ≤ 1048576 by omega)).mono ?_
        rintro e w7 ⟨back, there, rfl, hJ, hB7⟩
        obtain ⟨rfl, rfl⟩ := back_of hJ hs
        have HB7 := Lib.hid (HB6.out.next hB7)
        clear hB7 HB6 hJ
        go_wp2_with fail
        go_ret
        exact ⟨rfl, HB7.out⟩
      · obtain ⟨rfl, rfl⟩ := sr_no SR.out h1
        have h5 : ((sep.size : Int) != 1) = true := by rw [bne_iff_ne]; omega
        clear h1
        go_wp2_with fail
        go_ret
        exact ⟨rfl, HB6.out⟩
end Go.Proofs.Ytohgfphbgpjamaa.JoinLaw
