/- The contract of spec.l1Split: a new slice that holds the pieces of a string between the bytes that are the given one. Condition: the string has at most 1048576 bytes. -/
import Derived.Test.YtohgfphbgpjamaaChecked
import Derived.Test.YtohgfphbgpjamaaPlainSplit
import Derived.WalkKit
import Derived.Lib.Hide
import Derived.WalkSpells
import Derived.Maps.AppendAt
import Derived.Outline
namespace Go.Proofs.Ytohgfphbgpjamaa.Split
set_option linter.unusedVariables false
open Go.RowKit
open Go.Proofs.Ytohgfphbgpjamaa.PlainSplit

theorem infoS : (Try.prog.info? 9).map (fun i => (i.zero, i.size, i.bytes)) = some (some (.string ByteArray.empty), 1, 16) := by kernel_rfl

def SplitPost (s : ByteArray) (b : UInt8) (w : World) (e : Ending) (w' : World) : Prop :=
  ∃ g cap, e = .returned (.slice (some ⟨g, 0, none⟩) (split s b).length cap) ∧ w'.ownsRow w.heap.size 9 1 (.slice (some ⟨g, 0, none⟩) (split s b).length cap) (split s b).length ((split s b).map Value.string) ∧ Below w.heap.size w w'

theorem owns_empty (w : World) (e : TypeId) : (w.alloc (.cells #[] e)).ownsRow w.heap.size e 1 (.slice (some ⟨w.heap.size, 0, none⟩) 0 0) 0 [] :=
  ⟨rfl, .inr ⟨w.heap.size, 0, #[], rfl, Nat.le_refl _, heap_alloc_new w _, Nat.le_refl _, by unfold maxLen; omega, rfl, rfl⟩⟩

/-- the relation at the loop's head: k bytes have been looked at -/
def Rel (s : ByteArray) (b : UInt8) (w : World) (k : Nat) (ao : Option Addr) (cv : Nat) (wr : World) : Prop :=
  wr.ownsRow w.heap.size 9 1 (.slice ao (outs s b k).length cv) (outs s b k).length ((outs s b k).map Value.string) ∧ Below w.heap.size w wr

theorem rel_hit {s : ByteArray} {b : UInt8} {w wr w3 : World} {k : Nat} {ao : Option Addr} {cv : Nat} {v' : Value} (h : Rel s b w k ao cv wr) (hk : k < s.size) (hb : s[k] = b)
    (o : Obj) (hown : w3.ownsRow w.heap.size 9 1 v' ((outs s b k).length + 1) ((outs s b k).map Value.string ++ [.string (s.extract (frm s b k) k)]))
    (hg : (wr.alloc o).grownBy w3 (Value.slice ao (outs s b k).length cv).ownBlock) : ∃ g cap, v' = .slice (some ⟨g, 0, none⟩) (outs s b (k + 1)).length cap ∧ Rel s b w (k + 1) (some ⟨g, 0, none⟩) cap w3 := by
  have e := outs_hit s b k hk hb
  have el : (outs s b (k + 1)).length = (outs s b k).length + 1 := by rw [e]; simp
  have em : (outs s b (k + 1)).map Value.string = (outs s b k).map Value.string ++ [.string (s.extract (frm s b k) k)] := by rw [e]; simp
  obtain ⟨g, cap, rfl⟩ : ∃ g cap, v' = .slice (some ⟨g, 0, none⟩) ((outs s b k).length + 1) cap := by
    rcases hown.2 with ⟨_, h⟩ | ⟨g3, cap3, _, h, _⟩
    · omega
    · exact ⟨g3, cap3, h⟩
  refine ⟨g, cap, by rw [el], ?_, ?_⟩
  · rw [el, em]; exact hown
  · have hsz := h.2.size
    exact (h.2.alloc hsz o).grown hg (by simp; omega) (fun q hq => (h.1.lt q hq).1)

theorem fin_split {s : ByteArray} {b : UInt8} {w wr w3 : World} {ao : Option Addr} {cv : Nat} {v' : Value} (h : Rel s b w s.size ao cv wr)
    (o : Obj) (hown : w3.ownsRow w.heap.size 9 1 v' ((outs s b s.size).length + 1) ((outs s b s.size).map Value.string ++ [.string (s.extract (frm s b s.size) s.size)]))
    (hg : (wr.alloc o).grownBy w3 (Value.slice ao (outs s b s.size).length cv).ownBlock) : ∃ g cap, v' = .slice (some ⟨g, 0, none⟩) (split s b).length cap ∧
      w3.ownsRow w.heap.size 9 1 (.slice (some ⟨g, 0, none⟩) (split s b).length cap) (split s b).length ((split s b).map Value.string) ∧ Below w.heap.size w w3 := by
  have el : (split s b).length = (outs s b s.size).length + 1 := by unfold split; simp
  have em : (split s b).map Value.string = (outs s b s.size).map Value.string ++ [.string (s.extract (frm s b s.size) s.size)] := by unfold split; simp
  obtain ⟨g, cap, rfl⟩ : ∃ g cap, v' = .slice (some ⟨g, 0, none⟩) ((outs s b s.size).length + 1) cap := by
    rcases hown.2 with ⟨_, h⟩ | ⟨g3, cap3, _, h, _⟩
    · omega
    · exact ⟨g3, cap3, h⟩
  refine ⟨g, cap, by rw [el], ?_, ?_⟩
  · rw [el, em]; exact hown
  · have hsz := h.2.size
    exact (h.2.alloc hsz o).grown hg (by simp; omega) (fun q hq => (h.1.lt q hq).1)

theorem rel_miss {s : ByteArray} {b : UInt8} {w wr : World} {k : Nat} {ao : Option Addr} {cv : Nat} (h : Rel s b w k ao cv wr) (hk : k < s.size) (hb : s[k] ≠ b) : Rel s b w (k + 1) ao cv wr := by
  unfold Rel; rw [outs_miss s b k hk hb]; exact h

set_option maxHeartbeats 800000 in
theorem l1Split_any (s : ByteArray) (b : UInt8) (w : World) (hs : s.size ≤ 1048576) :
    Calls Try.prog 33 #[.string s, .int .u8 (b.toNat : Int)] w (SplitPost s b w) := by
  obtain ⟨i0, hi, hz0, hz1, hz2⟩ := info_parts infoS
  go_enter Try.func33, Try.ntmps33
  go_wp2
  go_loopw [5, 6, 7] (fun v f i wr => ∃ (k : Nat) (ao : Option Addr) (cv : Nat), k ≤ s.size ∧ i = .int .i64 k ∧ f = .int .i64 (frm s b k) ∧ v = .slice ao (outs s b k).length cv ∧ Rel s b w k ao cv wr) (fun _ _ i _ => s.size - (intOf i).toNat)
  case atStart => exact ⟨0, some ⟨w.heap.size, 0, none⟩, 0, Nat.zero_le _, rfl, rfl, rfl, owns_empty w _, (Below.refl _ _).alloc (Nat.le_refl _) _⟩
  case round =>
    obtain ⟨k, ao, cv, hk, rfl, rfl, rfl, hR⟩ := hrel
    have hn := outs_len s b k
    have hf := frm_le s b k
    have hown := hR.1
    have hsz := hR.2.size
    by_cases hlt : k < s.size
    · by_cases hc : s[k] = b
      · have HR := Lib.hid hR
        have HC := Lib.hid hc
        have HF := Lib.hid (frm_hit s b k hlt hc)
        have hb : ((s[k].toNat : Int) == (b.toNat : Int)) = true := by rw [hc]; simp
        clear hc hR
        go_wp2_with (at_builtin; refine wpList_append_own _ rfl _ _ 26 rfl w.heap.size 9 i0 (.string ByteArray.empty) 1 16 Try.underlying26 hi hz0 hz1 hz2 rfl (by decide) _ _ _ rfl (hown.alloc _) ⟨wr.heap.size, 0, none⟩ 1 1 [.string (s.extract (frm s b k) k)] rfl rfl (cell_one_new _ _ _) (fun x hx => by simp at hx; subst hx; rfl) (by unfold maxLen; omega) (by omega) (by simp; omega) ?_; intro v' w3 hown' hgrow3 hnil3; clear hnil3; obtain ⟨g, cap, rfl, HR'⟩ := rel_hit HR.out hlt HC.out _ hown' hgrow3; clear hown' hgrow3)
        go_roundw
        case rel => exact ⟨k + 1, _, _, by omega, by go_num, by rw [HF.out]; go_num, rfl, HR'⟩
        case measure => simp [intOf]; omega
      · have HR := Lib.hid (rel_miss hR hlt hc)
        have HF := Lib.hid (frm_miss s b k hlt hc)
        have HO := Lib.hid (outs_miss s b k hlt hc)
        have hb : ((s[k].toNat : Int) == (b.toNat : Int)) = false := by
          rw [beq_eq_false_iff_ne]; intro e; exact hc (UInt8.toNat_inj.1 (by omega))
        clear hc hR
        go_wp2
        go_roundw
        case rel => exact ⟨k + 1, ao, cv, by omega, by go_num, by rw [HF.out], by rw [HO.out], HR.out⟩
        case measure => simp [intOf]; omega
    · obtain rfl : k = s.size := by omega
      have HR := Lib.hid hR
      clear hR
      go_wp2_with (at_builtin; refine wpList_append_own _ rfl _ _ 26 rfl w.heap.size 9 i0 (.string ByteArray.empty) 1 16 Try.underlying26 hi hz0 hz1 hz2 rfl (by decide) _ _ _ rfl (hown.alloc _) ⟨wr.heap.size, 0, none⟩ 1 1 [.string (s.extract (frm s b s.size) s.size)] rfl rfl (cell_one_new _ _ _) (fun x hx => by simp at hx; subst hx; rfl) (by unfold maxLen; omega) (by omega) (by simp; omega) ?_; intro v' w3 hown' hgrow3 hnil3; clear hnil3)
      obtain ⟨g, cap, rfl, HO, HB⟩ := fin_split HR.out _ hown' hgrow3
      go_ret
      exact ⟨g, cap, rfl, HO, HB⟩
end Go.Proofs.Ytohgfphbgpjamaa.Split
