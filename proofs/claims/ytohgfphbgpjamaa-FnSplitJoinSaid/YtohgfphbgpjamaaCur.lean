/- The contracts of the drawing cursor's methods next, pick and one: each leaves a cursor and gives a number within its bounds. Conditions: the cursor's bytes read as bytes, and it has been asked fewer than 2^62 times. -/
import Derived.Test.YtohgfphbgpjamaaChecked
import Derived.Test.YtohgfphbgpjamaaRow
import Derived.WalkKit
import Derived.Lib.Hide
import Derived.WalkSpells
import Derived.BigQuiet
import Derived.Deep.QuietTactic
import Derived.Laws.AppendOwn
import Derived.IntWalk
import Derived.Laws.Bits64
import Derived.Outline
namespace Go.Proofs.Ytohgfphbgpjamaa.Cursor
set_option linter.unusedVariables false
open Go.RowKit
open Go.Proofs.Ytohgfphbgpjamaa.Rowed

/-- bytes that came in: nil, or cells that hold numbers from 0 to 255, below block B -/
def ByteCode (w : World) (B : Nat) (A : Option Addr) (n : Nat) : Prop := ∀ i, i < n → ∃ ad z, A = some ad ∧ ad.block < B ∧ w.cell? (ad.add i) = some (.int .u8 z) ∧ 0 ≤ z ∧ z ≤ 255

/-- block g is a cursor over the bytes 'A, n, c' that has moved at most m times -/
def Cur (w : World) (g : Nat) (A : Option Addr) (n c m : Nat) : Prop :=
  ∃ (at_ : Nat) (seed : Int), at_ ≤ m ∧ w.heap[g]? = some (.cells #[.slice A n c, .int .i64 at_, .int .u64 seed] 44 (0, 0))

theorem ByteCode.grown {w w' : World} {B g n : Nat} {A : Option Addr} (h : ByteCode w B A n) (hg : w.grownBy w' (some g)) (hB : B ≤ g) : ByteCode w' B A n := by
  intro i hi
  obtain ⟨ad, z, e, hb, hc, h0, h1⟩ := h i hi
  refine ⟨ad, z, e, hb, ?_, h0, h1⟩
  have hlt := cell_lt hc
  rw [add_block] at hlt
  rw [World.cell?_of_block (w := w) (w' := w') (hg.block (ad.add i).block (by rw [add_block]; exact hlt) (by rw [add_block]; intro e; injection e; omega))]
  exact hc

def NextPost (w : World) (g : Nat) (A : Option Addr) (n c m : Nat) (e : Ending) (w' : World) : Prop :=
  ∃ b : Int, e = .returned (.int .i64 b) ∧ 0 ≤ b ∧ b ≤ 255 ∧ Cur w' g A n c m ∧ w.grownBy w' (some g)

theorem cells3 {w : World} {g : Nat} {t : TypeId} {x y z : Value} (h : w.heap[g]? = some (.cells #[x, y, z] t (0, 0))) :
    w.cell? ⟨g, 0, none⟩ = some x ∧ w.cell? ⟨g, 1, none⟩ = some y ∧ w.cell? ⟨g, 2, none⟩ = some z ∧ (∀ i, w.frozen? ⟨g, i, none⟩ = false) :=
  ⟨by simp [World.cell?, h], by simp [World.cell?, h], by simp [World.cell?, h], fun i => by simp [World.frozen?, h]⟩

theorem stored {w W2 : World} {g n1 : Nat} {t : TypeId} {x y z u v : Value} (hb : w.heap[g]? = some (.cells #[x, y, z] t (0, 0)))
    (hW : ((w.drewN n1).setCell ⟨g, 1, none⟩ u).setCell ⟨g, 2, none⟩ v = W2) : W2.heap[g]? = some (.cells #[x, u, v] t (0, 0)) ∧ w.grownBy W2 (some g) := by
  subst hW
  refine ⟨by simp [World.setCell, Array.getElem?_modify, hb], ⟨rfl, rfl, rfl, by simp [World.setCell], fun k _ hk => ?_⟩⟩
  have hne : k ≠ g := fun e => hk (by rw [e])
  rw [Below.heap_setCell _ _ _ _ hne, Below.heap_setCell _ _ _ _ hne]
  rfl

theorem grown_drewN {w w' : World} {r : Option Nat} (h : w.grownBy w' r) (n : Nat) : w.grownBy (w'.drewN n) r := ⟨h.os, h.tape, h.output, h.size, h.block⟩

theorem and255 (y : Int) : 0 ≤ wrap64 (bits .and .u64 y 255) ∧ wrap64 (bits .and .u64 y 255) ≤ 255 := by
  have h : 0 ≤ bits .and .u64 y 255 ∧ bits .and .u64 y 255 ≤ 255 := by
    have h1 : (BitVec.ofInt 64 y &&& BitVec.ofInt 64 255).toNat ≤ 255 := by
      rw [BitVec.toNat_and]
      exact Nat.le_trans Nat.and_le_right (by decide)
    show 0 ≤ IntKind.u64.wrap ((BitVec.ofInt 64 y &&& BitVec.ofInt 64 255).toNat : Int) ∧ IntKind.u64.wrap ((BitVec.ofInt 64 y &&& BitVec.ofInt 64 255).toNat : Int) ≤ 255
    rw [IntKind.wrap_u64]
    omega
  rw [IntWalk.wrap64_in _ ⟨by omega, by omega⟩]
  exact h

set_option maxHeartbeats 1000000 in
theorem next_any (w : World) (B g : Nat) (A : Option Addr) (n c m : Nat) (hc : ByteCode w B A n) (hB : B ≤ g) (h : Cur w g A n c m) (hm : m < 4611686018427387904) (hn : n ≤ 9223372036854775807) :
    Calls Try.prog 37 #[.pointer (some ⟨g, 0, none⟩)] w (NextPost w g A n c (m + 1)) := by
  obtain ⟨k, seed, hk, hb⟩ := h
  obtain ⟨c0, c1, c2, hf⟩ := cells3 hb
  have f1 := hf 1
  have f2 := hf 2
  have HB := Lib.hid hb
  clear hb hf
  by_cases hlt : k < n
  · obtain ⟨ad, z, rfl, hbl, hcell, hz0, hz1⟩ := hc k hlt
    have b1 : 0 ≤ (k : Int) := by omega
    have b2 : (k : Int) < n := by omega
    clear hc
    go_enter Try.func37, Try.ntmps37
    go_wp2_with fail
    go_quiet (fail)
    go_wp2_with fail
    go_quiet (fail)
    go_wp2_with fail
    generalize hW2 : (World.setCell (World.setCell (World.drewN w _) ⟨g, 1, none⟩ _) ⟨g, 2, none⟩ _) = W2
    obtain ⟨hb2, hg2⟩ := stored HB.out hW2
    obtain ⟨d0, d1, d2, df⟩ := cells3 hb2
    have HB2 := Lib.hid hb2
    have HG2 := Lib.hid hg2
    clear hb2 hg2 df hW2 HB c0 c1 c2 f1 f2
    go_quiet (fail)
    go_wp2_with fail
    go_ret
    exact ⟨_, rfl, hz0, hz1, ⟨k + 1, _, by omega, HB2.out⟩, grown_drewN HG2.out _⟩
  · have b2 : (n : Int) ≤ k := by omega
    have b3 : ¬ ((k : Int) + 1 ≤ n) := by omega
    go_enter Try.func37, Try.ntmps37
    go_wp2_with fail
    go_quiet (fail)
    go_wp2_with fail
    generalize hW2 : (World.setCell (World.setCell (World.drewN w _) ⟨g, 1, none⟩ _) ⟨g, 2, none⟩ _) = W2
    obtain ⟨hb2, hg2⟩ := stored HB.out hW2
    obtain ⟨d0, d1, d2, df⟩ := cells3 hb2
    have HB2 := Lib.hid hb2
    have HG2 := Lib.hid hg2
    clear hb2 hg2 df hW2 HB c0 c1 c2 f1 f2
    go_quiet (fail)
    go_wp2_with fail
    go_ret
    refine ⟨_, rfl, ?_, ?_, ⟨k + 1, _, by omega, HB2.out⟩, grown_drewN HG2.out _⟩
    · exact (and255 _).1
    · exact (and255 _).2

/-- a number that the cursor gives, and the cursor behind it -/
def NumPost (w : World) (g : Nat) (A : Option Addr) (n c m : Nat) (lim : Int) (e : Ending) (w' : World) : Prop :=
  ∃ x : Int, e = .returned (.int .i64 x) ∧ 0 ≤ x ∧ x < lim ∧ Cur w' g A n c m ∧ w.grownBy w' (some g)

theorem grown_trans {a b c : World} {r : Option Nat} (h : a.grownBy b r) (k : b.grownBy c r) : a.grownBy c r :=
  ⟨k.os.trans h.os, k.tape.trans h.tape, k.output.trans h.output, Nat.le_trans h.size k.size, fun i hi hr => (k.block i (Nat.lt_of_lt_of_le hi h.size) hr).trans (h.block i hi hr)⟩
theorem Cur.more {w : World} {g : Nat} {A : Option Addr} {n c m m' : Nat} (h : Cur w g A n c m) (hm : m ≤ m') : Cur w g A n c m' :=
  let ⟨k, s, hk, hb⟩ := h; ⟨k, s, by omega, hb⟩

set_option maxHeartbeats 400000 in
/-- pick: a number from 0 to p - 1 (0 where p is at most 1) -/
theorem pick_any (w : World) (B g : Nat) (A : Option Addr) (n c m : Nat) (p : Int) (hc : ByteCode w B A n) (hB : B ≤ g) (h : Cur w g A n c m) (hm : m < 4611686018427387900) (hn : n ≤ 9223372036854775807) (hp : 1 ≤ p) (hp2 : p ≤ 4611686018427387904) :
    Calls Try.prog 28 #[.pointer (some ⟨g, 0, none⟩), .int .i64 p] w (NumPost w g A n c (m + 2) p) := by
  have HC := Lib.hid hc
  have HU := Lib.hid h
  clear hc h
  by_cases h1 : p ≤ 1
  · go_enter Try.func28, Try.ntmps28
    go_wp2_with fail
    go_ret
    exact ⟨0, rfl, by omega, by omega, HU.out.more (by omega), ⟨rfl, rfl, rfl, Nat.le_refl _, fun _ _ _ => rfl⟩⟩
  · by_cases h2 : 200 < p
    · go_enter Try.func28, Try.ntmps28
      go_wp2_with fail
      go_at_call 37
      refine (next_any w B g A n c m HC.out hB HU.out (by omega) hn).mono ?_
      rintro e w1 ⟨x1, rfl, ha1, ha2, hU1, hG1⟩
      have U1 := Lib.hid hU1
      have G1 := Lib.hid hG1
      have C1 := Lib.hid (HC.out.grown hG1 hB)
      clear hU1 hG1
      go_wp2_with fail
      go_at_call 37
      refine (next_any w1 B g A n c (m + 1) C1.out hB U1.out (by omega) hn).mono ?_
      rintro e w2 ⟨x2, rfl, hb1, hb2, hU2, hG2⟩
      have U2 := Lib.hid hU2
      have G2 := Lib.hid (grown_trans G1.out hG2)
      clear hU2 hG2
      have b1 : 0 ≤ x1 * 256 + x2 := by omega
      have b2 : 0 ≤ (x1 * 256 + x2) % p := Int.emod_nonneg _ (by omega)
      have b3 : (x1 * 256 + x2) % p < p := Int.emod_lt_of_pos _ (by omega)
      go_wp2_with fail
      go_ret
      exact ⟨_, rfl, b2, b3, U2.out, G2.out⟩
    · go_enter Try.func28, Try.ntmps28
      go_wp2_with fail
      go_at_call 37
      refine (next_any w B g A n c m HC.out hB HU.out (by omega) hn).mono ?_
      rintro e w1 ⟨x1, rfl, ha1, ha2, hU1, hG1⟩
      have U1 := Lib.hid hU1
      have G1 := Lib.hid hG1
      clear hU1 hG1
      have b2 : 0 ≤ x1 % p := Int.emod_nonneg _ (by omega)
      have b3 : x1 % p < p := Int.emod_lt_of_pos _ (by omega)
      go_wp2_with fail
      go_ret
      exact ⟨_, rfl, b2, b3, U1.out.more (by omega), G1.out⟩
end Go.Proofs.Ytohgfphbgpjamaa.Cursor
