/- The contracts of spec.l1Stands, spec.l1Seal, spec.AppendChecksum and impl.AppendChecksum: sealing a string with its checksum. Conditions: the string has at most 2^47 bytes; for impl the library's table is as the library lays it. -/
import Derived.Test.YtohgfphbgpjamaaDoorSum
import Derived.Test.YtohgfphbgpjamaaDoorFmt
import Derived.Test.YtohgfphbgpjamaaDoorPlainSeal
import Derived.Lib.IndexAny
namespace Go.Proofs.YtohgfphbgpjamaaDoor.Seal
set_option linter.unusedVariables false
open Go.RowKit
open Go.Proofs.YtohgfphbgpjamaaDoor.PlainSum Go.Proofs.YtohgfphbgpjamaaDoor.PlainNum Go.Proofs.YtohgfphbgpjamaaDoor.PlainSeal Go.Proofs.YtohgfphbgpjamaaDoor.Sum Go.Proofs.YtohgfphbgpjamaaDoor.Num Go.Proofs.YtohgfphbgpjamaaDoor.Fmt

def SealPost (l : List UInt8) (w : World) (e : Ending) (w' : World) : Prop :=
  ∃ t : ByteArray, ∃ b, e = .returned (.tuple #[.string t, .bool b]) ∧ Sl l t.data.toList b ∧ Below w.heap.size w w'

theorem below_drewN (w : World) (m : Nat) : Below w.heap.size w (w.drewN m) := ⟨rfl, rfl, rfl, Nat.le_refl _, fun _ _ => rfl⟩

theorem not_mem_take (s : ByteArray) (c : UInt8) (k : Nat) (h : k < s.size) (hn : c ∉ s.data.toList.take k) (hc : s[k] ≠ c) : c ∉ s.data.toList.take (k + 1) := by
  rw [PlainSum.take_snoc s k h]
  intro hm
  rcases List.mem_append.1 hm with h1 | h1
  · exact hn h1
  · exact hc (List.mem_singleton.1 h1).symm

theorem mem_at (s : ByteArray) (c : UInt8) (k : Nat) (h : k < s.size) (hc : s[k] = c) : c ∈ s.data.toList := by
  have : k < s.data.toList.length := by simpa using h
  rw [← hc]; exact List.getElem_mem this

def StandPost (l : List UInt8) (c : UInt8) (w : World) (e : Ending) (w' : World) : Prop := ∃ b, e = .returned (.bool b) ∧ (b = true ↔ c ∈ l) ∧ w = w'

set_option maxHeartbeats 400000 in
theorem l1Stands_any (s : ByteArray) (c : UInt8) (w : World) (hs : s.size ≤ 140737488355328) :
    Calls Tryd.prog 33 #[.string s, .int .u8 (c.toNat : Int)] w (StandPost s.data.toList c w) := by
  go_enter Tryd.func33, Tryd.ntmps33
  go_wp2
  go_loop [5] (fun i => ∃ k : Nat, k ≤ s.size ∧ i = .int .i64 k ∧ c ∉ s.data.toList.take k) (fun i => s.size - (intOf i).toNat)
  case atStart => exact ⟨0, Nat.zero_le _, rfl, by simp⟩
  case round =>
    obtain ⟨k, hk, rfl, hn⟩ := hrel
    by_cases hlt : k < s.size
    · by_cases hc : s[k] = c
      · have HM := Lib.hid (mem_at s c k hlt hc)
        have hb : ((s[k].toNat : Int) == (c.toNat : Int)) = true := by rw [hc]; simp
        clear hc hn
        go_wp2
        go_ret
        exact ⟨true, rfl, ⟨fun _ => HM.out, fun _ => rfl⟩, rfl⟩
      · have HN := Lib.hid (not_mem_take s c k hlt hn hc)
        have hb : ((s[k].toNat : Int) == (c.toNat : Int)) = false := by
          rw [beq_eq_false_iff_ne]; intro e; exact hc (UInt8.toNat_inj.1 (by omega))
        clear hc
        go_wp2
        go_round
        case rel => exact ⟨k + 1, by omega, by go_num, HN.out⟩
        case measure => simp [intOf]; omega
    · have e : s.data.toList.take k = s.data.toList := List.take_of_length_le (by simp; omega)
      have HN : Hid (c ∉ s.data.toList) := Lib.hid (by rw [e] at hn; exact hn)
      clear e hn
      go_wp2
      go_ret
      exact ⟨false, rfl, ⟨fun h => by simp at h, fun h => absurd h HN.out⟩, rfl⟩

theorem add_str {P : Program} (a b c : ByteArray) (h : a.data.toList ++ b.data.toList = c.data.toList) (hl : c.data.toList.length ≤ 9223372036854775807) (W : World) :
    (Op.stringOp .add a b).run P W = .ok (.string c) W := by
  have e1 : a.data.toList.length = a.size := by simp
  have e2 : b.data.toList.length = b.size := by simp
  rw [← h, List.length_append, e1, e2] at hl
  rw [run_string_add_sum]
  · congr 2
    apply ext_of
    rw [← h]
    simp
  · exact hl

def hash : ByteArray := ⟨#[35]⟩
def marked (s : ByteArray) : ByteArray := ⟨(s.data.toList ++ [35]).toArray⟩
def sealedOf (s : ByteArray) : ByteArray := ⟨(sealed s.data.toList).toArray⟩
theorem add_mark {P : Program} (s : ByteArray) (h : s.size ≤ 140737488355328) (W : World) : (Op.stringOp .add s ⟨#[35]⟩).run P W = .ok (.string (marked s)) W := by
  refine add_str s ⟨#[35]⟩ (marked s) rfl ?_ W
  have e : s.data.toList.length = s.size := by simp
  show (s.data.toList ++ [35]).length ≤ _
  rw [List.length_append, e]
  show s.size + 1 ≤ _
  omega
theorem add_seal {P : Program} (s : ByteArray) (h : s.size ≤ 140737488355328) (W : World) : (Op.stringOp .add (marked s) ⟨(Lib.itoa (ck s.data.toList)).toArray⟩).run P W = .ok (.string (sealedOf s)) W := by
  refine add_str (marked s) ⟨(Lib.itoa (ck s.data.toList)).toArray⟩ (sealedOf s) ?_ ?_ W
  · show (s.data.toList ++ [35]) ++ Lib.itoa (ck s.data.toList) = sealed s.data.toList
    unfold sealed; simp
  · have := (sealed_len s.data.toList).2
    have e : s.data.toList.length = s.size := by simp
    show (sealed s.data.toList).length ≤ _
    omega
theorem sealedOf_size (s : ByteArray) : (sealedOf s).size = (sealed s.data.toList).length := rfl

theorem l1Seal_any (s : ByteArray) (w : World) (hs : s.size ≤ 140737488355328) :
    Calls Tryd.prog 34 #[.string s] w fun e w' => e = .returned (.string (sealedOf s)) ∧ ∃ m, w' = w.drewN m := by
  have h1 := fun W => add_mark (P := Tryd.prog) s hs W
  have h2 := fun W => add_seal (P := Tryd.prog) s hs W
  have hb := ck_bd s.data.toList
  go_enter Tryd.func34, Tryd.ntmps34
  go_wp2_with (first | (go_at_call 42; refine (l1Sum_any s _ (by unfold maxLen; omega)).mono ?_; rintro e w' ⟨rfl, rfl⟩) | (go_at_call 25; refine (l1Num_any (ck s.data.toList) _ (by omega) (by omega)).mono ?_; rintro e w' ⟨rfl, m, rfl⟩))
  go_ret
  exact ⟨rfl, _, rfl⟩

end Go.Proofs.YtohgfphbgpjamaaDoor.Seal
