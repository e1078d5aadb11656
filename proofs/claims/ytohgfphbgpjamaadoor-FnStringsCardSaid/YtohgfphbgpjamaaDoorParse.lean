/- The contracts of spec.l1Read and impl.ParseInt: each reads a decimal numeral within -999999..999999, and nothing else. Conditions: the string has at most 2^47 bytes; for impl the library's tables and errors are as the library lays them. -/
import Derived.Test.YtohgfphbgpjamaaDoorNum
import Derived.Test.YtohgfphbgpjamaaDoorPlainNum
import Derived.Lib.IndexBytes
import Derived.Outline
namespace Go.Proofs.YtohgfphbgpjamaaDoor.Parse
set_option linter.unusedVariables false
open Go.RowKit
open Go.Proofs.YtohgfphbgpjamaaDoor.Num Go.Proofs.YtohgfphbgpjamaaDoor.PlainNum

def ReadPost (l : List UInt8) (w : World) (e : Ending) (w' : World) : Prop :=
  ∃ v b, e = .returned (.tuple #[.int .i64 v, .bool b]) ∧ Rd l v b ∧ ∃ m, w' = w.drewN m

theorem take_snoc (s : ByteArray) (k : Nat) (h : k < s.size) : s.data.toList.take (k + 1) = s.data.toList.take k ++ [s[k]] := by
  rw [List.take_succ_eq_append_getElem (by simpa using h)]; rfl

theorem dv_take (s : ByteArray) (k : Nat) (h : k < s.size) (h1 : 48 ≤ s[k].toNat) : (dv (s.data.toList.take (k + 1)) : Int) = 10 * (dv (s.data.toList.take k) : Int) + ((s[k].toNat : Int) - 48) := by
  rw [take_snoc s k h, dv_snoc]; omega

theorem digs_take (s : ByteArray) (k : Nat) (h : k < s.size) (h1 : 48 ≤ s[k].toNat) (h2 : s[k].toNat ≤ 57) (hd : Digs (s.data.toList.take k)) : Digs (s.data.toList.take (k + 1)) := by
  rw [take_snoc s k h]
  intro c hc
  rcases List.mem_append.1 hc with h3 | h3
  · exact hd c h3
  · obtain rfl : c = s[k] := by simpa using h3
    exact ⟨h1, h2⟩

theorem not_digs (s : ByteArray) (k : Nat) (h : k < s.size) (h1 : s[k].toNat < 48 ∨ 57 < s[k].toNat) : ¬ Digs s.data.toList := by
  intro hd
  have := hd s[k] (by have : k < s.data.toList.length := by simpa using h
                      exact List.getElem_mem this)
  omega

theorem ne_of {l : List UInt8} {s : ByteArray} (h : (!l == s.toList) = true) : l ≠ s.data.toList := by
  rw [← Lib.toList_data]; simpa using h
theorem eq_of {l : List UInt8} {s : ByteArray} (h : (!l == s.toList) = false) : l = s.data.toList := by
  rw [← Lib.toList_data]; simpa using h

set_option maxHeartbeats 800000 in
theorem l1Read_minus (s t : ByteArray) (w : World) (hx : s.extract 1 s.size = t) (h0 : 1 < s.size) (h45 : ((s[0].toNat : Int) == 45) = true) (hs1 : t.size + 1 ≤ s.size) (hs2 : s.size ≤ t.size + 1) (hm : s.size ≤ 140737488355328)
    (hl : Hid (s.data.toList = 45 :: t.data.toList)) :
    Calls Tryd.prog 29 #[.string s] w (ReadPost s.data.toList w) := by
  by_cases h6 : 1 ≤ t.size ∧ t.size ≤ 6
  · obtain ⟨h61, h62⟩ := h6
    go_enter Tryd.func29, Tryd.ntmps29
    go_wp2_with (go_at_call 24; refine (l1In_yes (t.size : Int) 1 6 _ (by omega) (by omega)).mono ?_; rintro e w' ⟨rfl, rfl⟩)
    go_loop [5, 6] (fun n i => ∃ k : Nat, k ≤ t.size ∧ i = .int .i64 k ∧ n = .int .i64 (dv (t.data.toList.take k) : Nat) ∧ Digs (t.data.toList.take k)) (fun _ i => t.size - (intOf i).toNat)
    case atStart => exact ⟨0, Nat.zero_le _, rfl, rfl, fun c hc => by simp at hc⟩
    case round =>
      obtain ⟨k, hk, rfl, rfl, hdg⟩ := hrel
      have hb := dv_lt6 _ hdg (by rw [List.length_take]; omega)
      by_cases hlt : k < t.size
      · by_cases hc1 : 48 ≤ t[k].toNat
        · by_cases hc2 : t[k].toNat ≤ 57
          · have HS := Lib.hid (dv_take t k hlt hc1)
            have HD := Lib.hid (digs_take t k hlt hc1 hc2 hdg)
            have hu : IntKind.u8.wrap ((t[k].toNat : Int) - 48) = (t[k].toNat : Int) - 48 := by rw [IntKind.wrap_u8]; omega
            go_wp2
            all_goals
              go_round
              case rel => exact ⟨k + 1, by omega, by go_num, by rw [HS.out], HD.out⟩
              case measure => simp [intOf]; omega
          · have HN := Lib.hid (not_digs t k hlt (by omega))
            go_wp2
            go_ret2
            exact ⟨0, false, rfl, hl.out ▸ Rd.no (no_minus (.inr (.inr HN.out))), 0, rfl⟩
        · have HN := Lib.hid (not_digs t k hlt (by omega))
          go_wp2
          go_ret2
          exact ⟨0, false, rfl, hl.out ▸ Rd.no (no_minus (.inr (.inr HN.out))), 0, rfl⟩
      · have HA : Hid (t.data.toList.take k = t.data.toList) := Lib.hid (List.take_of_length_le (by simp; omega))
        have HL : Hid (t.data.toList.length ≤ 6) := Lib.hid (by simp; omega)
        go_wp2_with (go_at_call 25; refine (l1Num_any (-(dv (t.data.toList.take k) : Int)) _ (by omega) (by omega)).mono ?_; rintro e w' ⟨rfl, m, rfl⟩)
        all_goals go_ret2
        · rename_i hne
          rw [HA.out] at hne hdg
          exact ⟨0, false, rfl, hl.out ▸ (end_minus hdg HL.out).2 (hl.out ▸ ne_of hne), _, rfl⟩
        · rename_i heq
          rw [HA.out] at heq hdg
          exact ⟨_, true, rfl, by rw [HA.out]; exact hl.out ▸ (end_minus hdg HL.out).1 (hl.out ▸ eq_of heq), _, rfl⟩
  · have h6' : (t.size : Int) < 1 ∨ 6 < (t.size : Int) := by omega
    go_enter Tryd.func29, Tryd.ntmps29
    go_wp2_with (go_at_call 24; refine (l1In_no (t.size : Int) 1 6 _ h6').mono ?_; rintro e w' ⟨rfl, rfl⟩)
    go_ret2
    refine ⟨_, _, rfl, Rd.no (hl.out ▸ no_minus ?_), 0, rfl⟩
    have e : t.data.toList.length = t.size := by simp
    omega
set_option maxHeartbeats 800000 in
theorem l1Read_short (s : ByteArray) (w : World) (h0 : s.size ≤ 1) (hm : s.size ≤ 140737488355328)
    (hp : Hid (¬ (1 < s.data.toList.length ∧ s.data.toList.head? = some 45))) :
    Calls Tryd.prog 29 #[.string s] w (ReadPost s.data.toList w) := by
  by_cases h6 : 1 ≤ s.size ∧ s.size ≤ 6
  · obtain ⟨h61, h62⟩ := h6
    go_enter Tryd.func29, Tryd.ntmps29
    go_wp2_with (go_at_call 24; refine (l1In_yes (s.size : Int) 1 6 _ (by omega) (by omega)).mono ?_; rintro e w' ⟨rfl, rfl⟩)
    go_loop [5, 6] (fun n i => ∃ k : Nat, k ≤ s.size ∧ i = .int .i64 k ∧ n = .int .i64 (dv (s.data.toList.take k) : Nat) ∧ Digs (s.data.toList.take k)) (fun _ i => s.size - (intOf i).toNat)
    case atStart => exact ⟨0, Nat.zero_le _, rfl, rfl, fun c hc => by simp at hc⟩
    case round =>
      obtain ⟨k, hk, rfl, rfl, hdg⟩ := hrel
      have hb := dv_lt6 _ hdg (by rw [List.length_take]; omega)
      by_cases hlt : k < s.size
      · by_cases hc1 : 48 ≤ s[k].toNat
        · by_cases hc2 : s[k].toNat ≤ 57
          · have HS := Lib.hid (dv_take s k hlt hc1)
            have HD := Lib.hid (digs_take s k hlt hc1 hc2 hdg)
            have hu : IntKind.u8.wrap ((s[k].toNat : Int) - 48) = (s[k].toNat : Int) - 48 := by rw [IntKind.wrap_u8]; omega
            go_wp2
            all_goals
              go_round
              case rel => exact ⟨k + 1, by omega, by go_num, by rw [HS.out], HD.out⟩
              case measure => simp [intOf]; omega
          · have HN := Lib.hid (not_digs s k hlt (by omega))
            go_wp2
            go_ret2
            exact ⟨0, false, rfl, Rd.no (no_plain' hp.out (.inr (.inr HN.out))), 0, rfl⟩
        · have HN := Lib.hid (not_digs s k hlt (by omega))
          go_wp2
          go_ret2
          exact ⟨0, false, rfl, Rd.no (no_plain' hp.out (.inr (.inr HN.out))), 0, rfl⟩
      · have HA : Hid (s.data.toList.take k = s.data.toList) := Lib.hid (List.take_of_length_le (by simp; omega))
        have HL : Hid (s.data.toList.length ≤ 6) := Lib.hid (by simp; omega)
        go_wp2_with (go_at_call 25; refine (l1Num_any ((dv (s.data.toList.take k) : Int)) _ (by omega) (by omega)).mono ?_; rintro e w' ⟨rfl, m, rfl⟩)
        all_goals go_ret2
        · rename_i hne
          rw [HA.out] at hne hdg
          exact ⟨0, false, rfl, (end_plain' hdg HL.out).2 (ne_of hne), _, rfl⟩
        · rename_i heq
          rw [HA.out] at heq hdg
          exact ⟨_, true, rfl, by rw [HA.out]; exact (end_plain' hdg HL.out).1 (eq_of heq), _, rfl⟩
  · have h6' : (s.size : Int) < 1 ∨ 6 < (s.size : Int) := by omega
    go_enter Tryd.func29, Tryd.ntmps29
    go_wp2_with (go_at_call 24; refine (l1In_no (s.size : Int) 1 6 _ h6').mono ?_; rintro e w' ⟨rfl, rfl⟩)
    go_ret2
    refine ⟨_, _, rfl, Rd.no (no_plain' hp.out ?_), 0, rfl⟩
    have e : s.data.toList.length = s.size := by simp
    omega
set_option maxHeartbeats 800000 in
theorem l1Read_plain (s : ByteArray) (w : World) (h0 : 1 < s.size) (h45 : ((s[0].toNat : Int) == 45) = false) (hm : s.size ≤ 140737488355328)
    (hp : Hid (¬ (1 < s.data.toList.length ∧ s.data.toList.head? = some 45))) :
    Calls Tryd.prog 29 #[.string s] w (ReadPost s.data.toList w) := by
  by_cases h6 : 1 ≤ s.size ∧ s.size ≤ 6
  · obtain ⟨h61, h62⟩ := h6
    go_enter Tryd.func29, Tryd.ntmps29
    go_wp2_with (go_at_call 24; refine (l1In_yes (s.size : Int) 1 6 _ (by omega) (by omega)).mono ?_; rintro e w' ⟨rfl, rfl⟩)
    go_loop [5, 6] (fun n i => ∃ k : Nat, k ≤ s.size ∧ i = .int .i64 k ∧ n = .int .i64 (dv (s.data.toList.take k) : Nat) ∧ Digs (s.data.toList.take k)) (fun _ i => s.size - (intOf i).toNat)
    case atStart => exact ⟨0, Nat.zero_le _, rfl, rfl, fun c hc => by simp at hc⟩
    case round =>
      obtain ⟨k, hk, rfl, rfl, hdg⟩ := hrel
      have hb := dv_lt6 _ hdg (by rw [List.length_take]; omega)
      by_cases hlt : k < s.size
      · by_cases hc1 : 48 ≤ s[k].toNat
        · by_cases hc2 : s[k].toNat ≤ 57
          · have HS := Lib.hid (dv_take s k hlt hc1)
            have HD := Lib.hid (digs_take s k hlt hc1 hc2 hdg)
            have hu : IntKind.u8.wrap ((s[k].toNat : Int) - 48) = (s[k].toNat : Int) - 48 := by rw [IntKind.wrap_u8]; omega
            go_wp2
            all_goals
              go_round
              case rel => exact ⟨k + 1, by omega, by go_num, by rw [HS.out], HD.out⟩
              case measure => simp [intOf]; omega
          · have HN := Lib.hid (not_digs s k hlt (by omega))
            go_wp2
            go_ret2
            exact ⟨0, false, rfl, Rd.no (no_plain' hp.out (.inr (.inr HN.out))), 0, rfl⟩
        · have HN := Lib.hid (not_digs s k hlt (by omega))
          go_wp2
          go_ret2
          exact ⟨0, false, rfl, Rd.no (no_plain' hp.out (.inr (.inr HN.out))), 0, rfl⟩
      · have HA : Hid (s.data.toList.take k = s.data.toList) := Lib.hid (List.take_of_length_le (by simp; omega))
        have HL : Hid (s.data.toList.length ≤ 6) := Lib.hid (by simp; omega)
        go_wp2_with (go_at_call 25; refine (l1Num_any ((dv (s.data.toList.take k) : Int)) _ (by omega) (by omega)).mono ?_; rintro e w' ⟨rfl, m, rfl⟩)
        all_goals go_ret2
        · rename_i hne
          rw [HA.out] at hne hdg
          exact ⟨0, false, rfl, (end_plain' hdg HL.out).2 (ne_of hne), _, rfl⟩
        · rename_i heq
          rw [HA.out] at heq hdg
          exact ⟨_, true, rfl, by rw [HA.out]; exact (end_plain' hdg HL.out).1 (eq_of heq), _, rfl⟩
  · have h6' : (s.size : Int) < 1 ∨ 6 < (s.size : Int) := by omega
    go_enter Tryd.func29, Tryd.ntmps29
    go_wp2_with (go_at_call 24; refine (l1In_no (s.size : Int) 1 6 _ h6').mono ?_; rintro e w' ⟨rfl, rfl⟩)
    go_ret2
    refine ⟨_, _, rfl, Rd.no (no_plain' hp.out ?_), 0, rfl⟩
    have e : s.data.toList.length = s.size := by simp
    omega

/-- spec.l1Read, at every string that is not too long -/
theorem l1Read_any (s : ByteArray) (w : World) (hm : s.size ≤ 140737488355328) :
    Calls Tryd.prog 29 #[.string s] w (ReadPost s.data.toList w) := by
  have el : s.data.toList.length = s.size := by simp
  by_cases h0 : 1 < s.size
  · have e0 : s.data.toList.head? = some s[0] := by
      rw [List.head?_eq_getElem?, List.getElem?_eq_getElem (by omega)]; rfl
    by_cases h45 : s[0] = 45
    · have hx := Lib.extract_to_end s 1
      refine l1Read_minus s (s.extract 1 s.size) w rfl h0 ?_ ?_ ?_ hm (Lib.hid ?_)
      · rw [h45]; rfl
      · have : (s.extract 1 s.size).size = s.size - 1 := by simp
        omega
      · have : (s.extract 1 s.size).size = s.size - 1 := by simp
        omega
      · rw [hx]
        cases hq : s.data.toList with
        | nil => rw [hq] at el; simp at el; omega
        | cons c r =>
          rw [hq] at e0
          have : c = 45 := by rw [← h45]; simpa using e0
          rw [this]; rfl
    · refine l1Read_plain s w h0 ?_ hm (Lib.hid ?_)
      · rw [beq_eq_false_iff_ne]
        intro e
        apply h45
        apply UInt8.toNat_inj.1
        show s[0].toNat = 45
        omega
      · rintro ⟨_, h⟩
        rw [e0] at h
        exact h45 (by simpa using h)
  · exact l1Read_short s w (by omega) hm (Lib.hid (by rintro ⟨h, _⟩; omega))

theorem specParseInt_any (s : ByteArray) (w : World) (hm : s.size ≤ 140737488355328) :
    Calls Tryd.prog 14 #[.string s] w (ReadPost s.data.toList w) := by
  go_enter Tryd.func14, Tryd.ntmps14
  go_wp2_with (go_at_call 29; refine (l1Read_any s _ hm).mono ?_; rintro e w' ⟨v, b, rfl, hR, m, rfl⟩)
  go_ret2
  exact ⟨v, b, rfl, hR, m, rfl⟩
end Go.Proofs.YtohgfphbgpjamaaDoor.Parse
