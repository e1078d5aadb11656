/- The contracts of ValueOf and of the reference's. Condition: the slices read as a list of stamps and a list of ints. -/
import Derived.Test.YtmbfekfpahlmfaaAreStamps
import Derived.Test.YtmbfekfpahlmfaaHelpInt
import Derived.Test.YtmbfekfpahlmfaaTurn
import Derived.Test.YtmbfekfpahlmfaaPlainValue
namespace Go.Proofs.Ytmbfekfpahlmfaa.Value
set_option linter.unusedVariables false
open Go.RowKit
open Go.Proofs.Ytmbfekfpahlmfaa.Rowed Go.Proofs.Ytmbfekfpahlmfaa.Turn Go.Proofs.Ytmbfekfpahlmfaa.PlainStamp Go.Proofs.Ytmbfekfpahlmfaa.Stamp Go.Proofs.Ytmbfekfpahlmfaa.HelpStamp Go.Proofs.Ytmbfekfpahlmfaa.AreStamps Go.Proofs.Ytmbfekfpahlmfaa.HelpInt Go.Proofs.Ytmbfekfpahlmfaa.PlainValue

set_option maxHeartbeats 1000000 in
theorem value_impl (A0 : Option Addr) (c0 : Nat) (l : List St) (A1 : Option Addr) (c1 : Nat) (f : List Int) (w : World) (h0 : Sts w A0 l.length l) (h1 : Ints w A1 f.length f) (hn0 : l.length ≤ 1048576) (hn1 : f.length ≤ 1048576) :
    Calls Try.prog 29 #[.slice A0 l.length c0, .slice A1 f.length c1] w (Gives (.tuple #[.int .i64 (valRes l f).1, .bool (valRes l f).2]) w) := by
  have H0 := Lib.hid h0
  have H1 := Lib.hid h1
  clear h0 h1
  cases hok : okSts l with
  | false =>
    have HOK := Lib.hid hok
    have HR := Lib.hid (valRes_no1 (f := f) hok)
    clear hok
    go_enter Try.func29, Try.ntmps29
    go_wp2_with fail
    go_at_call 17
    refine (are_impl A0 _ c0 l _ H0.out (by omega)).mono ?_
    rintro e w1 ⟨rfl, hb⟩
    rw [HOK.out]
    have HB := Lib.hid hb
    clear hb
    go_wp2_with fail
    go_ret2
    rw [HR.out]
    exact ⟨rfl, HB.out⟩
  | true =>
    have HOK := Lib.hid hok
    clear hok
    by_cases hlong : 40 < f.length
    · have HR := Lib.hid (valRes_no2 (l := l) hlong)
      go_enter Try.func29, Try.ntmps29
      go_wp2_with fail
      go_at_call 17
      refine (are_impl A0 _ c0 l _ H0.out (by omega)).mono ?_
      rintro e w1 ⟨rfl, hb⟩
      rw [HOK.out]
      have HB := Lib.hid hb
      clear hb
      go_wp2_with fail
      go_ret2
      rw [HR.out]
      exact ⟨rfl, HB.out⟩
    · go_enter Try.func29, Try.ntmps29
      go_wp2_with fail
      go_at_call 17
      refine (are_impl A0 _ c0 l _ H0.out (by omega)).mono ?_
      rintro e w1 ⟨rfl, hb⟩
      rw [HOK.out]
      have HB := Lib.hid hb
      clear hb
      go_wp2_with fail
      go_loopw [6, 7, 20] (fun v t i wr => ∃ k : Nat, k ≤ f.length ∧ i = .int .i64 k ∧ v = .int .i64 (sumUp l f k) ∧ t = .int .i64 (leastUp f k) ∧ Hid (frUp l f k = true) ∧ Hid (Below w.heap.size w wr)) (fun _ _ i _ => f.length - (intOf i).toNat)
      case atStart => exact ⟨0, Nat.zero_le _, rfl, rfl, rfl, Lib.hid (frUp_zero l f), HB⟩
      case round =>
        obtain ⟨k, hk, rfl, rfl, rfl, HU, HK⟩ := hrel
        have hs := sumUp_bd HOK.out f k
        by_cases hlt : k < f.length
        · obtain ⟨ab, ao, x, rfl, hx, hc⟩ := Ints.at_ H1.out hlt
          have hcx := cell_below HK.out hc
          have HE := Lib.hid (frAt_eq HU.out hx)
          have hl0 := leastUp_nn HU.out
          clear hc
          cases hin : inB x (leastUp f k) ((l.length : Int) - 1) with
          | false =>
            have HI := Lib.hid hin
            have HR := Lib.hid (valRes_no3 (HE.out.trans hin) hlt)
            clear hin hx
            go_wp2_with (go_at_call 40; refine (within_any _ _ _ _).mono ?_; rintro e w' ⟨rfl, rfl⟩; rw [HI.out])
            go_ret2
            rw [HR.out]
            exact ⟨rfl, HK.out⟩
          | true =>
            have HI := Lib.hid hin
            have hb := inB_of hin
            have HX := Lib.hid hx
            have hx0 : 0 ≤ x := by omega
            obtain ⟨j, hj⟩ := Int.eq_ofNat_of_zero_le hx0
            subst hj
            have hjl : j < l.length := by omega
            clear hin hx
            obtain ⟨bb, bo, s, rfl, hy, hd0, hd1, hd2, hd3⟩ := Sts.at_ H0.out hjl
            have hcf := cell_below HK.out hd1
            have HN : Hid (sumUp l f (k + 1) = sumUp l f k + s.face) := Lib.hid (by rw [sumUp_succ HX.out, faceAt_of hy])
            have HU2 : Hid (frUp l f (k + 1) = true) := Lib.hid (by rw [frUp_succ, HU.out, HE.out, HI.out]; rfl)
            have hfb := (okSt_yes (okSts_at HOK.out hy).1).2.1
            clear hd0 hd1 hd2 hd3 hy
            go_wp2_with (go_at_call 40; refine (within_any _ _ _ _).mono ?_; rintro e w' ⟨rfl, rfl⟩; rw [HI.out])
            go_roundw
            case rel => exact ⟨k + 1, by omega, by go_num, by rw [HN.out], by rw [leastUp_succ HX.out], HU2, HK⟩
            case measure => simp [intOf]; omega
        · obtain rfl : k = f.length := by omega
          have HR := Lib.hid (valRes_yes HOK.out (by omega) HU.out)
          go_wp2_with fail
          go_ret2
          rw [HR.out]
          exact ⟨rfl, HK.out⟩

set_option maxHeartbeats 1000000 in
theorem value_spec (A0 : Option Addr) (c0 : Nat) (l : List St) (A1 : Option Addr) (c1 : Nat) (f : List Int) (w : World) (h0 : Sts w A0 l.length l) (h1 : Ints w A1 f.length f) (hn0 : l.length ≤ 1048576) (hn1 : f.length ≤ 1048576) :
    Calls Try.prog 27 #[.slice A0 l.length c0, .slice A1 f.length c1] w (Gives (.tuple #[.int .i64 (valRes l f).1, .bool (valRes l f).2]) w) := by
  have H0 := Lib.hid h0
  have H1 := Lib.hid h1
  clear h0 h1
  cases hok : okSts l with
  | false =>
    have HOK := Lib.hid hok
    have HR := Lib.hid (valRes_no1 (f := f) hok)
    clear hok
    go_enter Try.func27, Try.ntmps27
    go_wp2_with fail
    go_at_call 41
    refine (l2Stamps_any A0 _ c0 l _ H0.out hn0).mono ?_
    rintro e w1 ⟨rfl, hb⟩
    rw [HOK.out]
    have HB := Lib.hid hb
    clear hb
    go_wp2_with fail
    go_ret2
    rw [HR.out]
    exact ⟨rfl, HB.out⟩
  | true =>
    have HOK := Lib.hid hok
    clear hok
    by_cases hlong : 40 < f.length
    · have HR := Lib.hid (valRes_no2 (l := l) hlong)
      go_enter Try.func27, Try.ntmps27
      go_wp2_with fail
      go_at_call 41
      refine (l2Stamps_any A0 _ c0 l _ H0.out hn0).mono ?_
      rintro e w1 ⟨rfl, hb⟩
      rw [HOK.out]
      have HB := Lib.hid hb
      clear hb
      go_wp2_with fail
      go_ret2
      rw [HR.out]
      exact ⟨rfl, HB.out⟩
    · go_enter Try.func27, Try.ntmps27
      go_wp2_with fail
      go_at_call 41
      refine (l2Stamps_any A0 _ c0 l _ H0.out hn0).mono ?_
      rintro e w1 ⟨rfl, hb⟩
      rw [HOK.out]
      have HB := Lib.hid hb
      clear hb
      go_wp2_with fail
      go_loopw [6, 7] (fun v i wr => ∃ k : Nat, k ≤ f.length ∧ i = .int .i64 k ∧ v = .int .i64 (sumUp l f k) ∧ Hid (frUp l f k = true) ∧ Hid (Below w.heap.size w wr)) (fun _ i _ => f.length - (intOf i).toNat)
      case atStart => exact ⟨0, Nat.zero_le _, rfl, rfl, Lib.hid (frUp_zero l f), HB⟩
      case round =>
        obtain ⟨k, hk, rfl, rfl, HU, HK⟩ := hrel
        have hs := sumUp_bd HOK.out f k
        by_cases hlt : k < f.length
        · obtain ⟨ab, ao, x, rfl, hx, hc⟩ := Ints.at_ H1.out hlt
          have hcx := cell_below HK.out hc
          have HE := Lib.hid (frAt_is (l := l) hx)
          have HX := Lib.hid hx
          clear hc hx
          by_cases hx0 : 0 ≤ x
          · obtain ⟨j, hj⟩ := Int.eq_ofNat_of_zero_le hx0
            subst hj
            by_cases hjl : j < l.length
            · obtain ⟨bb, bo, s, rfl, hy, hd0, hd1, hd2, hd3⟩ := Sts.at_ H0.out hjl
              have hcf := cell_below HK.out hd1
              have HN : Hid (sumUp l f (k + 1) = sumUp l f k + s.face) := Lib.hid (by rw [sumUp_succ HX.out, faceAt_of hy])
              have hfb := (okSt_yes (okSts_at HOK.out hy).1).2.1
              clear hd0 hd1 hd2 hd3 hy
              by_cases hk0 : 0 < k
              · obtain ⟨ab', ao', r, e', hr, hcr⟩ := Ints.at_ H1.out (show k - 1 < f.length by omega)
                obtain ⟨rfl, rfl⟩ : ab = ab' ∧ ao = ao' := by simpa using e'
                have hcr' := cell_below HK.out hcr
                clear hcr e'
                by_cases hrx : r ≤ (j : Int)
                · have HU2 : Hid (frUp l f (k + 1) = true) := Lib.hid (by rw [frUp_succ, HU.out, HE.out.2 ⟨by omega, .inr (fun r' h' => by rw [hr] at h'; have := Option.some.inj h'; omega)⟩]; rfl)
                  clear hr
                  go_wp2_with fail
                  go_roundw
                  case rel => exact ⟨k + 1, by omega, by go_num, by rw [HN.out], HU2, HK⟩
                  case measure => simp [intOf]; omega
                · have HR : Hid (valRes l f = (0, false)) := Lib.hid (valRes_no3 (Bool.eq_false_iff.2 (fun h => by rcases (HE.out.1 h).2 with h2 | h2; omega; have := h2 r hr; omega)) hlt)
                  clear hr
                  go_wp2_with fail
                  go_ret2
                  rw [HR.out]
                  exact ⟨rfl, HK.out⟩
              · have HU2 : Hid (frUp l f (k + 1) = true) := Lib.hid (by rw [frUp_succ, HU.out, HE.out.2 ⟨by omega, .inl (by omega)⟩]; rfl)
                go_wp2_with fail
                go_roundw
                case rel => exact ⟨k + 1, by omega, by go_num, by rw [HN.out], HU2, HK⟩
                case measure => simp [intOf]; omega
            · have HR : Hid (valRes l f = (0, false)) := Lib.hid (valRes_no3 (Bool.eq_false_iff.2 (fun h => by have := (HE.out.1 h).1; omega)) hlt)
              go_wp2_with fail
              go_ret2
              rw [HR.out]
              exact ⟨rfl, HK.out⟩
          · have HR : Hid (valRes l f = (0, false)) := Lib.hid (valRes_no3 (Bool.eq_false_iff.2 (fun h => by have := (HE.out.1 h).1; omega)) hlt)
            go_wp2_with fail
            go_ret2
            rw [HR.out]
            exact ⟨rfl, HK.out⟩
        · obtain rfl : k = f.length := by omega
          have HR := Lib.hid (valRes_yes HOK.out (by omega) HU.out)
          go_wp2_with fail
          go_ret2
          rw [HR.out]
          exact ⟨rfl, HK.out⟩
end Go.Proofs.Ytmbfekfpahlmfaa.Value
