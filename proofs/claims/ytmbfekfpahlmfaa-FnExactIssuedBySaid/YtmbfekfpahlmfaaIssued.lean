/- The contracts of IssuedBy and of the reference's. Condition: the slice reads as a list of stamps. -/
import Derived.Test.YtmbfekfpahlmfaaAreStamps
import Derived.Test.YtmbfekfpahlmfaaOutInt
import Derived.Test.YtmbfekfpahlmfaaPlainIssued
namespace Go.Proofs.Ytmbfekfpahlmfaa.Issued
set_option linter.unusedVariables false
open Go.RowKit
open Go.Proofs.Ytmbfekfpahlmfaa.Rowed Go.Proofs.Ytmbfekfpahlmfaa.PlainStamp Go.Proofs.Ytmbfekfpahlmfaa.Stamp Go.Proofs.Ytmbfekfpahlmfaa.HelpStamp Go.Proofs.Ytmbfekfpahlmfaa.AreStamps Go.Proofs.Ytmbfekfpahlmfaa.HelpInt Go.Proofs.Ytmbfekfpahlmfaa.OutInt Go.Proofs.Ytmbfekfpahlmfaa.PlainIssued

set_option maxHeartbeats 1000000 in
theorem issued_spec (A : Option Addr) (c : Nat) (l : List St) (y : Int) (w : World) (h : Sts w A l.length l) (hn : l.length ≤ 1048576) :
    Calls Try.prog 37 #[.slice A l.length c, .int .i64 y] w (OutPost (isRes l y) w) := by
  obtain ⟨i0, hi, hz0, hz1, hz2⟩ := info_parts infoI
  have HH := Lib.hid h
  clear h
  have K0 := Lib.hid (Keeps.start (Below.refl w.heap.size w))
  have HA := Lib.hid (Cells.below HH.out ((Below.refl _ _).alloc (Nat.le_refl _) (.cells #[] 3)))
  cases hok : okSts l with
  | false =>
    have HOK := Lib.hid hok
    have HR := Lib.hid (isRes_no1 (y := y) hok)
    clear hok
    go_enter Try.func37, Try.ntmps37
    go_wp2_with fail
    go_at_call 41
    refine (l2Stamps_any A _ c l _ HA.out hn).mono ?_
    rintro e w1 ⟨rfl, hb⟩
    rw [HOK.out]
    have K1 := Lib.hid (K0.out.next hb)
    clear hb
    go_wp2_with fail
    go_ret2
    rw [HR.out]
    exact ⟨_, _, rfl, K1.out⟩
  | true =>
    have HOK := Lib.hid hok
    clear hok
    cases hy : inB y 1840 2100 with
    | false =>
      have HY := Lib.hid hy
      have HR := Lib.hid (isRes_no2 (l := l) hy)
      clear hy
      go_enter Try.func37, Try.ntmps37
      go_wp2_with fail
      go_at_call 41
      refine (l2Stamps_any A _ c l _ HA.out hn).mono ?_
      rintro e w1 ⟨rfl, hb⟩
      rw [HOK.out]
      have K1 := Lib.hid (K0.out.next hb)
      clear hb
      go_wp2_with (go_at_call 44; refine (l2Year_any y _).mono ?_; rintro e w' ⟨rfl, rfl⟩; rw [HY.out])
      go_ret2
      rw [HR.out]
      exact ⟨_, _, rfl, K1.out⟩
    | true =>
      have HY := Lib.hid hy
      have HR := Lib.hid (isRes_yes HOK.out hy)
      clear hy
      go_enter Try.func37, Try.ntmps37
      go_wp2_with fail
      go_at_call 41
      refine (l2Stamps_any A _ c l _ HA.out hn).mono ?_
      rintro e w1 ⟨rfl, hb⟩
      rw [HOK.out]
      have K1 := Lib.hid (K0.out.next hb)
      clear hb
      go_wp2_with (go_at_call 44; refine (l2Year_any y _).mono ?_; rintro e w' ⟨rfl, rfl⟩; rw [HY.out])
      go_loopw [6, 7] (fun v i wr => ∃ (k : Nat) (B : Option Addr) (cv : Nat), k ≤ l.length ∧ i = .int .i64 k ∧ v = .slice B (issued (l.take k) y).length cv ∧ Hid (Keeps w B cv (issued (l.take k) y) wr)) (fun _ i _ => l.length - (intOf i).toNat)
      case atStart => exact ⟨0, _, 0, Nat.zero_le _, rfl, rfl, K1⟩
      case round =>
        obtain ⟨k, B, cv, hk, rfl, rfl, HK⟩ := hrel
        by_cases hlt : k < l.length
        · obtain ⟨ab, ao, s, rfl, hx, hc0, hc1, hc2, hc3⟩ := Sts.at_ HH.out hlt
          obtain ⟨ia, ib, ic, id⟩ := s
          have hle := issued_len l k y
          have hown := HK.out.own
          have hsz := HK.out.bel.size
          by_cases hyr : id ≤ y
          · have HI := Lib.hid (issued_yes hx hyr)
            have d0 := cell_below HK.out.bel hc0
            have d3 := cell_below HK.out.bel hc3
            clear hc0 hc1 hc2 hc3 hx
            go_wp2_with (at_builtin; refine wpList_append_own _ rfl _ _ 35 rfl w.heap.size 3 i0 (.int .i64 0) 1 8 Try.underlying35 hi hz0 hz1 hz2 rfl (by decide) _ _ _ rfl (hown.alloc _) ⟨wr.heap.size, 0, none⟩ 1 1 [.int .i64 ia] rfl rfl (cell_one_new _ _ _) (fun x hx => by simp at hx; subst hx; rfl) (by unfold maxLen; omega) (by omega) (by simp; omega) ?_; intro v' w3 hown' hgrow3 hnil3; clear hnil3; obtain ⟨g, cap, rfl, hK'⟩ := Keeps.push (HK.out.alloc _) hown' hgrow3; have HK' := Lib.hid hK'; clear hown' hgrow3 hK')
            go_roundw
            case rel => exact ⟨k + 1, _, _, by omega, by go_num, by rw [HI.out, List.length_append]; rfl, by rw [HI.out]; exact HK'⟩
            case measure => simp [intOf]; omega
          · have HI := Lib.hid (issued_no hx hyr)
            have d3 := cell_below HK.out.bel hc3
            clear hc0 hc1 hc2 hc3 hx hown
            go_wp2
            go_roundw
            case rel => exact ⟨k + 1, B, cv, by omega, by go_num, by rw [HI.out], by rw [HI.out]; exact HK⟩
            case measure => simp [intOf]; omega
        · obtain rfl : k = l.length := by omega
          rw [issued_all] at HK
          rw [issued_all]
          go_wp2
          go_ret2
          rw [HR.out]
          exact ⟨_, _, rfl, HK.out⟩

set_option maxHeartbeats 1000000 in
theorem issued_impl (A : Option Addr) (c : Nat) (l : List St) (y : Int) (w : World) (h : Sts w A l.length l) (hn : l.length ≤ 1048576) :
    Calls Try.prog 38 #[.slice A l.length c, .int .i64 y] w (OutPost (isRes l y) w) := by
  obtain ⟨i0, hi, hz0, hz1, hz2⟩ := info_parts infoI
  have HH := Lib.hid h
  clear h
  cases hok : okSts l with
  | false =>
    have HOK := Lib.hid hok
    have HR := Lib.hid (isRes_no1 (y := y) hok)
    clear hok
    go_enter Try.func38, Try.ntmps38
    go_wp2_with fail
    go_at_call 17
    refine (are_impl A _ c l _ HH.out (by omega)).mono ?_
    rintro e w1 ⟨rfl, hb⟩
    rw [HOK.out]
    have K1 := Lib.hid (Keeps.start hb)
    clear hb
    go_wp2_with fail
    go_ret2
    rw [HR.out]
    exact ⟨_, _, rfl, K1.out⟩
  | true =>
    have HOK := Lib.hid hok
    clear hok
    cases hy : inB y 1840 2100 with
    | false =>
      have HY := Lib.hid hy
      have HR := Lib.hid (isRes_no2 (l := l) hy)
      clear hy
      go_enter Try.func38, Try.ntmps38
      go_wp2_with fail
      go_at_call 17
      refine (are_impl A _ c l _ HH.out (by omega)).mono ?_
      rintro e w1 ⟨rfl, hb⟩
      rw [HOK.out]
      have K1 := Lib.hid (Keeps.start hb)
      clear hb
      go_wp2_with (go_at_call 40; refine (within_any y _ _ _).mono ?_; rintro e w' ⟨rfl, rfl⟩; rw [HY.out])
      go_ret2
      rw [HR.out]
      exact ⟨_, _, rfl, K1.out⟩
    | true =>
      have HY := Lib.hid hy
      have HR := Lib.hid (isRes_yes HOK.out hy)
      clear hy
      go_enter Try.func38, Try.ntmps38
      go_wp2_with fail
      go_at_call 17
      refine (are_impl A _ c l _ HH.out (by omega)).mono ?_
      rintro e w1 ⟨rfl, hb⟩
      rw [HOK.out]
      have K1 := Lib.hid (Keeps.start hb)
      clear hb
      go_wp2_with (go_at_call 40; refine (within_any y _ _ _).mono ?_; rintro e w' ⟨rfl, rfl⟩; rw [HY.out])
      go_loopw [6, 21] (fun v i wr => ∃ (k : Nat) (B : Option Addr) (cv : Nat), k ≤ l.length ∧ i = .int .i64 k ∧ v = .slice B (issued (l.take k) y).length cv ∧ Hid (Keeps w B cv (issued (l.take k) y) wr)) (fun _ i _ => l.length - (intOf i).toNat)
      case atStart => exact ⟨0, _, 0, Nat.zero_le _, rfl, rfl, K1⟩
      case round =>
        obtain ⟨k, B, cv, hk, rfl, rfl, HK⟩ := hrel
        by_cases hlt : k < l.length
        · obtain ⟨ab, ao, s, rfl, hx, hc0, hc1, hc2, hc3⟩ := Sts.at_ HH.out hlt
          obtain ⟨ia, ib, ic, id⟩ := s
          have hle := issued_len l k y
          have hown := HK.out.own
          have hsz := HK.out.bel.size
          have d0 := cell_below HK.out.bel hc0
          have d1 := cell_below HK.out.bel hc1
          have d2 := cell_below HK.out.bel hc2
          have d3 := cell_below HK.out.bel hc3
          by_cases hyr : id ≤ y
          · have HI := Lib.hid (issued_yes hx hyr)
            clear hc0 hc1 hc2 hc3 hx
            go_wp2_with (at_builtin; refine wpList_append_own _ rfl _ _ 35 rfl w.heap.size 3 i0 (.int .i64 0) 1 8 Try.underlying35 hi hz0 hz1 hz2 rfl (by decide) _ _ _ rfl (((HK.out.alloc _).alloc _).own) ⟨wr.heap.size + 1, 0, none⟩ 1 1 [.int .i64 ia] rfl rfl (cell_one_at (by simp)) (fun x hx => by simp at hx; subst hx; rfl) (by unfold maxLen; omega) (by omega) (by simp; omega) ?_; intro v' w3 hown' hgrow3 hnil3; clear hnil3; obtain ⟨g, cap, rfl, hK'⟩ := Keeps.push ((HK.out.alloc _).alloc _) hown' hgrow3; have HK' := Lib.hid hK'; clear hown' hgrow3 hK')
            go_roundw
            case rel => exact ⟨k + 1, _, _, by omega, by go_num, by rw [HI.out, List.length_append]; rfl, by rw [HI.out]; exact HK'⟩
            case measure => simp [intOf]; omega
          · have HI := Lib.hid (issued_no hx hyr)
            clear hc0 hc1 hc2 hc3 hx hown
            go_wp2
            go_roundw
            case rel => exact ⟨k + 1, B, cv, by omega, by go_num, by rw [HI.out], by rw [HI.out]; exact Lib.hid (HK.out.alloc _)⟩
            case measure => simp [intOf]; omega
        · obtain rfl : k = l.length := by omega
          rw [issued_all] at HK
          rw [issued_all]
          go_wp2
          go_ret2
          rw [HR.out]
          exact ⟨_, _, rfl, HK.out⟩
end Go.Proofs.Ytmbfekfpahlmfaa.Issued
