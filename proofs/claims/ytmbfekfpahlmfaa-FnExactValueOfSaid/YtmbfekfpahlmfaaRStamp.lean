/- The contracts of the laws' helpers on slices of stamps, in the forms that the other records have. Condition: the slice reads as a list of stamps. -/
import Derived.Test.YtmbfekfpahlmfaaMarkStamp
import Derived.Test.YtmbfekfpahlmfaaOpenStamp
import Derived.Test.YtmbfekfpahlmfaaTurn
import Derived.Test.YtmbfekfpahlmfaaAid
import Derived.Lib.Hide
namespace Go.Proofs.Ytmbfekfpahlmfaa.RStamp
set_option linter.unusedVariables false
open Go.RowKit
open Go.Proofs.Ytmbfekfpahlmfaa.Rowed Go.Proofs.Ytmbfekfpahlmfaa.Turn Go.Proofs.Ytmbfekfpahlmfaa.Aid Go.Proofs.Ytmbfekfpahlmfaa.PlainStamp

theorem to_any (A : Option Addr) (c : Nat) (l : List St) (w : World) (h : HelpStamp.Sts w A l.length l) (hn : l.length ≤ 1048576) :
    Calls Try.prog 16 #[.slice A l.length c] w (HelpStamp.ToPost l w) := HelpStamp.to_any A c l w h hn
theorem eq_same (A B : Option Addr) (n c d : Nat) (l : List St) (w : World) (h1 : HelpStamp.Sts w A n l) (h2 : HelpStamp.Sts w B n l) (hn : n ≤ 9223372036854775807) :
    Calls Try.prog 18 #[.slice A n c, .slice B n d] w fun e w' => e = .returned (.bool true) ∧ Below w.heap.size w w' := MarkStamp.eq_same A B n c d l w h1 h2 hn
theorem toOne_any (s : St) (w : World) : Calls Try.prog 12 #[s.val] w fun e w' => e = .returned s.val ∧ Below w.heap.size w w' := Stamp.toStamp_any s w
theorem eqOne_same (s : St) (w : World) : Calls Try.prog 42 #[s.val, s.val] w fun e w' => e = .returned (.bool true) ∧ Below w.heap.size w w' := MarkStamp.eqStamp_same s w
theorem sz_neg (A : Option Addr) (n c left : Nat) (w : World) (h : left < n) (hl : left ≤ 1048576) (hn : n ≤ 9223372036854775807) :
    Calls Try.prog 14 #[.slice A n c, .int .i64 left] w fun e w' => e = .returned (.int .i64 (-1)) ∧ w = w' := by
  go_enter Try.func14, Try.ntmps14
  go_wp2
  go_ret
  exact ⟨rfl, rfl⟩
theorem sz_pos (A : Option Addr) (n c left : Nat) (w : World) (h : n ≤ left) (hl : left ≤ 1048576) :
    Calls Try.prog 14 #[.slice A n c, .int .i64 left] w fun e w' => e = .returned (.int .i64 ((left - n : Nat) : Int)) ∧ w = w' := by
  have e : ((left - n : Nat) : Int) = (left : Int) - (n : Int) := by omega
  rw [e]
  clear e
  go_enter Try.func14, Try.ntmps14
  go_wp2
  go_ret
  exact ⟨rfl, rfl⟩

/-- a row of records is written over with marks: what is left of it is not asked, only its cells are there -/
def MarkRel (w : World) (base g n c : Nat) (wr : World) : Prop :=
  (∃ xs, wr.ownsRow base 25 4 (.slice (some ⟨g, 0, none⟩) n c) n xs) ∧ w.grownBy wr (some g)
theorem MarkRel.set {w wr : World} {base g n c j : Nat} (h : MarkRel w base g n c wr) (v : Value) : MarkRel w base g n c (wr.setCell ⟨g, j, none⟩ v) := by
  obtain ⟨⟨xs, hO⟩, hG⟩ := h
  exact ⟨⟨_, (hO.stored j v).1⟩, grown_tr hG (hO.stored j v).2⟩
theorem MarkRel.get {w wr : World} {base g n c j : Nat} (h : MarkRel w base g n c wr) (hj : j < n * 4) : ∃ y, wr.cell? ⟨g, j, none⟩ = some y ∧ wr.frozen? ⟨g, j, none⟩ = false := by
  obtain ⟨⟨xs, hO⟩, hG⟩ := h
  have hl := hO.1
  exact ⟨_, (hO.cellAt j (by omega)).trans (List.getElem?_eq_getElem (by omega : j < xs.length)), hO.frozenAt _⟩
theorem MarkRel.below {w wr w1 : World} {base g n c : Nat} (h : MarkRel w base g n c wr) (hb : Below wr.heap.size wr w1) : MarkRel w base g n c w1 := by
  obtain ⟨⟨xs, hO⟩, hG⟩ := h
  exact ⟨⟨xs, hO.kept (grown_of hb) (by cases (Value.slice (some ⟨g, 0, none⟩) n c).ownBlock <;> simp)⟩, grown_tr hG (grown_weak (grown_of hb) g)⟩
set_option maxHeartbeats 1600000 in
theorem mark_any (w : World) (base g n c k : Nat) (xs : List Value) (h : w.ownsRow base 25 4 (.slice (some ⟨g, 0, none⟩) n c) n xs) (hn : n ≤ 1048576) (hk : k ≤ 100000000) :
    Calls Try.prog 22 #[.slice (some ⟨g, 0, none⟩) n c, .int .i64 (k : Int)] w fun e w' => e = .returned (.int .i64 ((k + 4 * n : Nat) : Int)) ∧ w.grownBy w' (some g) := by
  have HR0 : Hid (MarkRel w base g n c w) := Lib.hid ⟨⟨xs, h⟩, grown_refl _ _⟩
  clear h
  go_enter Try.func22, Try.ntmps22
  go_wp2_with fail
  go_loopw [1, 5] (fun t i wr => ∃ j : Nat, j ≤ n ∧ i = .int .i64 j ∧ t = .int .i64 ((k + 4 * j : Nat) : Int) ∧ Hid (MarkRel w base g n c wr)) (fun _ i _ => n - (intOf i).toNat)
  case atStart => exact ⟨0, Nat.zero_le _, rfl, rfl, HR0⟩
  case round =>
    obtain ⟨j, hj, rfl, rfl, HR⟩ := hrel
    by_cases hlt : j < n
    · have hR1 : Hid (MarkRel w base g n c ((((wr.setCell ⟨g, j * 4, none⟩ (.int .i64 ((k + 4 * j : Nat) : Int))).setCell ⟨g, j * 4 + 1, none⟩ (.int .i64 ((k + 4 * j : Nat) + 1 : Int))).setCell ⟨g, j * 4 + 2, none⟩ (.int .i64 ((k + 4 * j : Nat) + 1 + 1 : Int))).setCell ⟨g, j * 4 + 3, none⟩ (.int .i64 ((k + 4 * j : Nat) + 1 + 1 + 1 : Int)))) := Lib.hid ((((HR.out.set (j := j * 4) (.int .i64 ((k + 4 * j : Nat) : Int))).set (j := j * 4 + 1) (.int .i64 ((k + 4 * j : Nat) + 1 : Int))).set (j := j * 4 + 2) (.int .i64 ((k + 4 * j : Nat) + 1 + 1 : Int))).set (j := j * 4 + 3) (.int .i64 ((k + 4 * j : Nat) + 1 + 1 + 1 : Int)))
      obtain ⟨y0, g0, z0⟩ := HR.out.get (j := j * 4) (by omega)
      obtain ⟨y1, g1, z1⟩ := HR.out.get (j := j * 4 + 1) (by omega)
      obtain ⟨y2, g2, z2⟩ := HR.out.get (j := j * 4 + 2) (by omega)
      obtain ⟨y3, g3, z3⟩ := HR.out.get (j := j * 4 + 3) (by omega)
      clear HR
      go_wp2_with fail
      go_roundw
      case rel => exact ⟨j + 1, by omega, by go_num, by go_num, hR1⟩
      case measure => simp [intOf]; omega
    · obtain rfl : j = n := by omega
      have HF := Lib.hid HR.out.2
      go_wp2_with fail
      go_ret
      exact ⟨rfl, HF.out⟩

end Go.Proofs.Ytmbfekfpahlmfaa.RStamp
