/- The contract of spec.l1Stands: whether a byte stands in a string. Condition: the string has at most 2^47 bytes. -/
import Derived.Test.YtohgfphbgpjamaaChecked
import Derived.WalkKit
import Derived.Lib.Hide
import Derived.Lib.IndexAny
namespace Go.Proofs.Ytohgfphbgpjamaa.Stands
set_option linter.unusedVariables false
open Go.RowKit

theorem take_snoc (s : ByteArray) (k : Nat) (h : k < s.size) : s.data.toList.take (k + 1) = s.data.toList.take k ++ [s[k]] := by
  rw [List.take_succ_eq_append_getElem (by simpa using h)]; rfl

theorem not_mem_take (s : ByteArray) (c : UInt8) (k : Nat) (h : k < s.size) (hn : c ∉ s.data.toList.take k) (hc : s[k] ≠ c) : c ∉ s.data.toList.take (k + 1) := by
  rw [take_snoc s k h]
  intro hm
  rcases List.mem_append.1 hm with h1 | h1
  · exact hn h1
  · exact hc (List.mem_singleton.1 h1).symm

theorem mem_at (s : ByteArray) (c : UInt8) (k : Nat) (h : k < s.size) (hc : s[k] = c) : c ∈ s.data.toList := by
  have : k < s.data.toList.length := by simpa using h
  rw [← hc]; exact List.getElem_mem this

def StandPost (l : List UInt8) (c : UInt8) (w : World) (e : Ending) (w' : World) : Prop := ∃ b, e = .returned (.bool b) ∧ (b = true ↔ c ∈ l) ∧ w = w'

set_option maxHeartbeats 400000 in
theorem l1Stands_any (s : ByteArray) (c : UInt8) (w : World) (hs : s.size ≤ 140737488355328) :
    Calls Try.prog 32 #[.string s, .int .u8 (c.toNat : Int)] w (StandPost s.data.toList c w) := by
  go_enter Try.func32, Try.ntmps32
  go_wp2
  go_loop [5] (fun i => ∃ k : Nat, k ≤ s.size ∧ i = .int .i64 k ∧ c ∉ s.data.toList.take k) (fun i => s.size - (intOf i).toNat)
  case atStart => exact ⟨0, Nat.zero_le _, rfl, by simp⟩
  case round =>
    obtain ⟨k, hk, rfl, hn⟩ := hrel
    by_cases hlt : k < s.size
    · by_cases hc : s[k] = c
      · have HM := Lib.hid (mem_at s c k hlt hc)
        have hb : ((s[k].toNat : Int) == (c.toNat : Int)) = true := by rw [hc]; simp
        clear hc hn
        go_wp2
        go_ret
        exact ⟨true, rfl, ⟨fun _ => HM.out, fun _ => rfl⟩, rfl⟩
      · have HN := Lib.hid (not_mem_take s c k hlt hn hc)
        have hb : ((s[k].toNat : Int) == (c.toNat : Int)) = false := by
          rw [beq_eq_false_iff_ne]; intro e; exact hc (UInt8.toNat_inj.1 (by omega))
        clear hc
        go_wp2
        go_round
        case rel => exact ⟨k + 1, by omega, by go_num, HN.out⟩
        case measure => simp [intOf]; omega
    · have e : s.data.toList.take k = s.data.toList := List.take_of_length_le (by simp; omega)
      have HN : Hid (c ∉ s.data.toList) := Lib.hid (by rw [e] at hn; exact hn)
      clear e hn
      go_wp2
      go_ret
      exact ⟨false, rfl, ⟨fun h => by simp at h, fun h => absurd h HN.out⟩, rfl⟩

theorem stands_yes (s : ByteArray) (c : UInt8) (w : World) (hs : s.size ≤ 140737488355328) (h : c ∈ s.data.toList) :
    Calls Try.prog 32 #[.string s, .int .u8 (c.toNat : Int)] w fun e w' => e = .returned (.bool true) ∧ w' = w :=
  (l1Stands_any s c w hs).mono fun e w' ⟨b, he, hb, hw⟩ => by rw [hb.2 h] at he; exact ⟨he, hw.symm⟩
theorem stands_no (s : ByteArray) (c : UInt8) (w : World) (hs : s.size ≤ 140737488355328) (h : c ∉ s.data.toList) :
    Calls Try.prog 32 #[.string s, .int .u8 (c.toNat : Int)] w fun e w' => e = .returned (.bool false) ∧ w' = w :=
  (l1Stands_any s c w hs).mono fun e w' ⟨b, he, hb, hw⟩ => by
    cases b with
    | true => exact absurd (hb.1 rfl) h
    | false => exact ⟨he, hw.symm⟩

theorem mem_iff (l : List UInt8) (c : UInt8) : c ∈ l ↔ 0 ≤ Lib.indexByte l c := by
  have h := Lib.contains_iff_indexByte l c
  rw [← List.contains_iff_mem, h]; simp

end Go.Proofs.Ytohgfphbgpjamaa.Stands
