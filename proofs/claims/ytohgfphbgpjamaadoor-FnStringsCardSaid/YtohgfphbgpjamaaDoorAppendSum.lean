/- The contracts of spec.AppendChecksum and impl.AppendChecksum: the sealed string and true, or the empty string and false. Conditions: the string has at most 2^47 bytes; for impl the library's table is as the library lays it. -/
import Derived.Test.YtohgfphbgpjamaaDoorSeal
namespace Go.Proofs.YtohgfphbgpjamaaDoor.AppendSum
set_option linter.unusedVariables false
open Go.RowKit
open Go.Proofs.YtohgfphbgpjamaaDoor.PlainSum Go.Proofs.YtohgfphbgpjamaaDoor.PlainNum Go.Proofs.YtohgfphbgpjamaaDoor.PlainSeal Go.Proofs.YtohgfphbgpjamaaDoor.Sum Go.Proofs.YtohgfphbgpjamaaDoor.Num Go.Proofs.YtohgfphbgpjamaaDoor.Fmt Go.Proofs.YtohgfphbgpjamaaDoor.Seal

theorem no_long {l : List UInt8} (h : 4000 < l.length) : Sl l (ByteArray.mk #[]).data.toList false := .inr ⟨rfl, rfl, fun k => by have := k.1; omega⟩
theorem no_mark {l : List UInt8} (h : (35 : UInt8) ∈ l) : Sl l (ByteArray.mk #[]).data.toList false := .inr ⟨rfl, rfl, fun k => k.2.1 h⟩
theorem no_room {l : List UInt8} (h : 4000 < (sealed l).length) : Sl l (ByteArray.mk #[]).data.toList false := .inr ⟨rfl, rfl, fun k => by have := k.2.2; omega⟩
theorem yes_all (s : ByteArray) (h1 : s.data.toList.length ≤ 4000) (h2 : (35 : UInt8) ∉ s.data.toList) (h3 : (sealed s.data.toList).length ≤ 4000) : Sl s.data.toList (sealedOf s).data.toList true := .inl ⟨rfl, ⟨h1, h2, h3⟩, rfl⟩

theorem stands_yes (s : ByteArray) (w : World) (hs : s.size ≤ 140737488355328) (h : (35 : UInt8) ∈ s.data.toList) :
    Calls Tryd.prog 33 #[.string s, .int .u8 35] w fun e w' => e = .returned (.bool true) ∧ w = w' :=
  (l1Stands_any s 35 w hs).mono fun e w' ⟨b, he, hb, hw⟩ => by rw [hb.2 h] at he; exact ⟨he, hw⟩
theorem stands_no (s : ByteArray) (w : World) (hs : s.size ≤ 140737488355328) (h : (35 : UInt8) ∉ s.data.toList) :
    Calls Tryd.prog 33 #[.string s, .int .u8 35] w fun e w' => e = .returned (.bool false) ∧ w = w' :=
  (l1Stands_any s 35 w hs).mono fun e w' ⟨b, he, hb, hw⟩ => by
    cases b with
    | true => exact absurd (hb.1 rfl) h
    | false => exact ⟨he, hw⟩

theorem mem_iff (l : List UInt8) (c : UInt8) : c ∈ l ↔ 0 ≤ Lib.indexByte l c := by
  have h := Lib.contains_iff_indexByte l c
  rw [← List.contains_iff_mem, h]; simp
theorem contains_yes (s : ByteArray) (w : World) (h : (35 : UInt8) ∈ s.data.toList) :
    Calls Tryd.prog 32 #[.string s, .string ⟨#[35]⟩] w fun e w' => e = .returned (.bool true) ∧ w = w' :=
  (Tryd.strings_Contains_one s 35 w).mono fun e w' ⟨he, hw⟩ => by rw [decide_eq_true ((mem_iff _ _).1 h)] at he; exact ⟨he, hw.symm⟩
theorem contains_no (s : ByteArray) (w : World) (h : (35 : UInt8) ∉ s.data.toList) :
    Calls Tryd.prog 32 #[.string s, .string ⟨#[35]⟩] w fun e w' => e = .returned (.bool false) ∧ w = w' :=
  (Tryd.strings_Contains_one s 35 w).mono fun e w' ⟨he, hw⟩ => by rw [decide_eq_false (fun k => h ((mem_iff _ _).2 k))] at he; exact ⟨he, hw.symm⟩

set_option maxHeartbeats 400000 in
theorem specAppend_any (s : ByteArray) (w : World) (hs : s.size ≤ 140737488355328) :
    Calls Tryd.prog 17 #[.string s] w (SealPost s.data.toList w) := by
  have el : Hid (s.data.toList.length = s.size) := Lib.hid (by simp)
  by_cases h1 : 4000 < s.size
  · go_enter Tryd.func17, Tryd.ntmps17
    go_wp2_with fail
    go_ret2
    exact ⟨_, false, rfl, no_long (by rw [el.out]; exact h1), Below.refl _ _⟩
  · by_cases h2 : (35 : UInt8) ∈ s.data.toList
    · have H2 := Lib.hid h2
      clear h2
      go_enter Tryd.func17, Tryd.ntmps17
      go_wp2_with (go_at_call 33; refine (stands_yes s _ hs H2.out).mono ?_; rintro e w' ⟨rfl, rfl⟩)
      go_ret2
      exact ⟨_, false, rfl, no_mark H2.out, Below.refl _ _⟩
    · have H2 := Lib.hid h2
      clear h2
      have ez := sealedOf_size s
      by_cases h3 : 4000 < (sealedOf s).size
      · clear ez
        go_enter Tryd.func17, Tryd.ntmps17
        go_wp2_with (first | (go_at_call 33; refine (stands_no s _ hs H2.out).mono ?_; rintro e w' ⟨rfl, rfl⟩) | (go_at_call 34; refine (l1Seal_any s _ hs).mono ?_; rintro e w' ⟨rfl, m, rfl⟩))
        go_ret2
        exact ⟨_, false, rfl, no_room (by rw [← sealedOf_size]; exact h3), below_drewN w m⟩
      · have H3 : Hid ((sealed s.data.toList).length ≤ 4000) := Lib.hid (by omega)
        clear ez
        go_enter Tryd.func17, Tryd.ntmps17
        go_wp2_with (first | (go_at_call 33; refine (stands_no s _ hs H2.out).mono ?_; rintro e w' ⟨rfl, rfl⟩) | (go_at_call 34; refine (l1Seal_any s _ hs).mono ?_; rintro e w' ⟨rfl, m, rfl⟩))
        go_ret2
        exact ⟨_, true, rfl, yes_all s (by rw [el.out]; omega) H2.out H3.out, ⟨rfl, rfl, rfl, Nat.le_refl _, fun _ _ => rfl⟩⟩

set_option maxHeartbeats 400000 in
theorem implAppend_any (s : ByteArray) (w : World) (hs : s.size ≤ 140737488355328) (ht : Hid (Tab w)) :
    Calls Tryd.prog 16 #[.string s] w (SealPost s.data.toList w) := by
  have el : Hid (s.data.toList.length = s.size) := Lib.hid (by simp)
  by_cases h1 : 4000 < s.size
  · go_enter Tryd.func16, Tryd.ntmps16
    go_wp2_with (go_at_call 31; refine (implChecksum_long s _ h1 (by omega)).mono ?_; rintro e w' ⟨rfl, rfl⟩)
    go_ret2
    exact ⟨_, false, rfl, no_long (by rw [el.out]; exact h1), Below.refl _ _⟩
  · have h1' : s.size ≤ 4000 := by omega
    clear h1
    by_cases h2 : (35 : UInt8) ∈ s.data.toList
    · have H2 := Lib.hid h2
      clear h2
      go_enter Tryd.func16, Tryd.ntmps16
      go_wp2_with (first | (go_at_call 31; refine (implChecksum_any s _ h1').mono ?_; rintro e w' ⟨rfl, rfl⟩) | (go_at_call 32; refine (contains_yes s _ H2.out).mono ?_; rintro e w' ⟨rfl, rfl⟩))
      go_ret2
      exact ⟨_, false, rfl, no_mark H2.out, Below.refl _ _⟩
    · have H2 := Lib.hid h2
      clear h2
      have ez := sealedOf_size s
      have a1 := fun W => add_mark (P := Tryd.prog) s hs W
      have a2 := fun W => add_seal (P := Tryd.prog) s hs W
      have B1 := Lib.hid (ck_num s.data.toList)
      by_cases h3 : 4000 < (sealedOf s).size
      · clear ez
        go_enter Tryd.func16, Tryd.ntmps16
        go_wp2_with (first | (go_at_call 31; refine (implChecksum_any s _ h1').mono ?_; rintro e w' ⟨rfl, rfl⟩) | (go_at_call 32; refine (contains_no s _ H2.out).mono ?_; rintro e w' ⟨rfl, rfl⟩) | (go_at_call 10; refine (implFormatInt_ok _ w B1.out.1 B1.out.2 ht).mono ?_; rintro e w1 ⟨rfl, hB⟩))
        go_ret2
        exact ⟨_, false, rfl, no_room (by rw [← sealedOf_size]; exact h3), hB⟩
      · have H3 : Hid ((sealed s.data.toList).length ≤ 4000) := Lib.hid (by omega)
        clear ez
        go_enter Tryd.func16, Tryd.ntmps16
        go_wp2_with (first | (go_at_call 31; refine (implChecksum_any s _ h1').mono ?_; rintro e w' ⟨rfl, rfl⟩) | (go_at_call 32; refine (contains_no s _ H2.out).mono ?_; rintro e w' ⟨rfl, rfl⟩) | (go_at_call 10; refine (implFormatInt_ok _ w B1.out.1 B1.out.2 ht).mono ?_; rintro e w1 ⟨rfl, hB⟩))
        go_ret2
        exact ⟨_, true, rfl, yes_all s (by rw [el.out]; omega) H2.out H3.out, hB⟩

end Go.Proofs.YtohgfphbgpjamaaDoor.AppendSum
