/- The contract of CanFrank. Condition: the slice reads as a list of stamps. -/
import Derived.Test.YtmbfekfpahlmfaaCostImpl
import Derived.Test.YtmbfekfpahlmfaaPlainFrank
import Derived.Test.YtmbfekfpahlmfaaTableOut
namespace Go.Proofs.Ytmbfekfpahlmfaa.Frank
set_option linter.unusedVariables false
open Go.RowKit
open Go.Proofs.Ytmbfekfpahlmfaa.Rowed Go.Proofs.Ytmbfekfpahlmfaa.PlainStamp Go.Proofs.Ytmbfekfpahlmfaa.Stamp Go.Proofs.Ytmbfekfpahlmfaa.HelpStamp Go.Proofs.Ytmbfekfpahlmfaa.AreStamps Go.Proofs.Ytmbfekfpahlmfaa.HelpInt Go.Proofs.Ytmbfekfpahlmfaa.OutInt Go.Proofs.Ytmbfekfpahlmfaa.PlainCost Go.Proofs.Ytmbfekfpahlmfaa.Table Go.Proofs.Ytmbfekfpahlmfaa.CostImpl Go.Proofs.Ytmbfekfpahlmfaa.PlainFrank Go.Proofs.Ytmbfekfpahlmfaa.TableOut

theorem TabRow.keep {E : TypeId} {w W wr : World} {g m v : Nat} {T : Nat → Value} {A : Option Addr} {c : Nat} {r : List Int} (h : TabRow E w g m T v W) (hk : Keeps W A c r wr) : TabRow E w g m T v wr := h.next hk.bel

set_option maxHeartbeats 1000000 in
theorem frank_impl (A : Option Addr) (c : Nat) (l : List St) (m : Int) (w : World) (h : Sts w A l.length l) (hn : l.length ≤ 1048576) :
    Calls Try.prog 31 #[.slice A l.length c, .int .i64 m] w (OutPost (franks l m) w) := by
  obtain ⟨i0, hi, hz0, hz1, hz2⟩ := info_parts infoI
  have HH := Lib.hid h
  clear h
  cases hok : okSts l with
  | false =>
    have HOK := Lib.hid hok
    have HR := Lib.hid (franks_no1 (m := m) hok)
    clear hok
    go_enter Try.func31, Try.ntmps31
    go_wp2_with fail
    go_at_call 17
    refine (are_impl A _ c l _ HH.out (by omega)).mono ?_
    rintro e w1 ⟨rfl, hb⟩
    rw [HOK.out]
    have K1 := Lib.hid (Keeps.start hb)
    clear hb
    go_wp2_with fail
    go_ret2
    rw [HR.out]
    exact ⟨_, _, rfl, K1.out⟩
  | true =>
    have HOK := Lib.hid hok
    clear hok
    cases hy : inB m 1 500 with
    | false =>
      have HY := Lib.hid hy
      have HR := Lib.hid (franks_no2 (l := l) hy)
      clear hy
      go_enter Try.func31, Try.ntmps31
      go_wp2_with fail
      go_at_call 17
      refine (are_impl A _ c l _ HH.out (by omega)).mono ?_
      rintro e w1 ⟨rfl, hb⟩
      rw [HOK.out]
      have K1 := Lib.hid (Keeps.start hb)
      clear hb
      go_wp2_with (go_at_call 40; refine (within_any m _ _ _).mono ?_; rintro e w' ⟨rfl, rfl⟩; rw [HY.out])
      go_ret2
      rw [HR.out]
      exact ⟨_, _, rfl, K1.out⟩
    | true =>
      have HM := inB_of hy
      obtain ⟨mm, rfl⟩ : ∃ mm : Nat, m = (mm : Int) := ⟨m.toNat, by omega⟩
      have HY := Lib.hid hy
      have HR := Lib.hid (franks_yes HOK.out hy)
      clear hy
      go_enter Try.func31, Try.ntmps31
      go_wp2_with fail
      go_at_call 17
      refine (are_impl A _ c l _ HH.out (by omega)).mono ?_
      rintro e w1 ⟨rfl, hb⟩
      rw [HOK.out]
      have B1 := Lib.hid hb
      clear hb
      go_wp2_with (go_at_call 40; refine (within_any _ _ _ _).mono ?_; rintro e w' ⟨rfl, rfl⟩; rw [HY.out])
      go_at_call 47
      refine (tab_impl A c l 2100 mm w1 (HH.out.below B1.out) HOK (by omega)).mono ?_
      rintro e w2 ⟨g, rfl, hT⟩
      have T2 := Lib.hid hT
      have B2 := Lib.hid (Below.step B1.out hT.bel)
      have K1 := Lib.hid (Keeps.start (Below.refl w2.heap.size w2))
      clear hT B1
      go_wp2_with fail
      go_loopw [7, 8] (fun v i wr => ∃ (k : Nat) (B : Option Addr) (cv' : Nat), 1 ≤ k ∧ k ≤ mm + 1 ∧ i = .int .i64 k ∧ v = .slice B (rates l k).length cv' ∧ Hid (Keeps w2 B cv' (rates l k) wr)) (fun _ i _ => mm + 1 - (intOf i).toNat)
      case atStart => exact ⟨1, _, 0, Nat.le_refl _, by omega, rfl, by rw [rates_one]; rfl, by rw [rates_one]; exact K1⟩
      case round =>
        obtain ⟨k, B, cv', hk1, hk2, rfl, rfl, HK⟩ := hrel
        by_cases hlt : k ≤ mm
        · have hle := rates_len l k
          have hsz := HK.out.bel.size
          have hcell : wr.cell? ⟨g, k, none⟩ = some (.int .i64 (cost 12000 2100 l k : Int)) := (TabRow.keep T2.out HK.out).read (by omega) (by omega)
          cases hg : good l k with
          | true =>
            have HI := Lib.hid (rates_yes (by omega) hg)
            have hc : (cost 12000 2100 l k : Int) < 12000 := by unfold good at hg; have := of_decide_eq_true hg; omega
            clear hg
            go_wp2_with (at_builtin; refine wpList_append_own _ rfl _ _ 35 rfl w2.heap.size 3 i0 (.int .i64 0) 1 8 Try.underlying35 hi hz0 hz1 hz2 rfl (by decide) _ _ _ rfl ((HK.out.alloc _).own) ⟨wr.heap.size, 0, none⟩ 1 1 [.int .i64 (k : Int)] rfl rfl (cell_one_at rfl) (fun x hx => by simp at hx; subst hx; rfl) (by unfold maxLen; omega) (by omega) (by simp; omega) ?_; intro v' w3 hown' hgrow3 hnil3; clear hnil3; obtain ⟨g', cap, rfl, hK'⟩ := Keeps.push (HK.out.alloc _) hown' hgrow3; have HK' := Lib.hid hK'; clear hown' hgrow3 hK')
            go_roundw
            case rel => exact ⟨k + 1, _, _, by omega, by omega, by go_num, by rw [HI.out, List.length_append]; rfl, by rw [HI.out]; exact HK'⟩
            case measure => simp [intOf]; omega
          | false =>
            have HI := Lib.hid (rates_no hg)
            have hc : ¬ (cost 12000 2100 l k : Int) < 12000 := by unfold good at hg; have := of_decide_eq_false hg; omega
            clear hg
            go_wp2
            go_roundw
            case rel => exact ⟨k + 1, B, cv', by omega, by omega, by go_num, by rw [HI.out], by rw [HI.out]; exact HK⟩
            case measure => simp [intOf]; omega
        · obtain rfl : k = mm + 1 := by omega
          go_wp2
          go_ret2
          rw [HR.out]
          exact ⟨_, _, rfl, HK.out.lower B2.out⟩

theorem infoB : (Try.prog.info? 4).map (fun i => (i.zero, i.size, i.bytes)) = some (some (.bool false), 1, 1) := by kernel_rfl
/-- the reference's table as values -/
def bv (l : List St) (v k u : Nat) : Value := .bool (tbl l v k u)
theorem both_start {w w1 w2 : World} {m : Nat} {l : List St} {A : Option Addr} {c : Nat} (hK : Keeps w A c [] w1) (hO : w2.ownsRow w.heap.size 4 1 (.slice (some ⟨w1.heap.size, 0, none⟩) m m) m ((madeCells #[.bool false] (m * 1)).toList)) (hG : w1.grownBy w2 none) (hm : 0 < m) :
    Both 4 w w1.heap.size m (fun _ => .bool false) m A c [] w2 := by
  refine ⟨⟨own_grown hK.own hG (by simp), hK.bel.grown hG hK.bel.size (by simp)⟩, TabRow.startAll hK.bel hO hG, fun e => ?_⟩
  have := (hK.own.lt w1.heap.size e).2
  omega

set_option maxHeartbeats 1000000 in
theorem frank_spec (A : Option Addr) (c : Nat) (l : List St) (m : Int) (w : World) (h : Sts w A l.length l) (hn : l.length ≤ 1048576) :
    Calls Try.prog 30 #[.slice A l.length c, .int .i64 m] w (OutPost (franks l m) w) := by
  obtain ⟨i0, hi, hz0, hz1, hz2⟩ := info_parts infoI
  obtain ⟨j0, hj, hy0, hy1, hy2⟩ := info_parts infoB
  have HH := Lib.hid h
  clear h
  have K0 := Lib.hid (Keeps.start (Below.refl w.heap.size w))
  have HA := Lib.hid (Cells.below HH.out ((Below.refl _ _).alloc (Nat.le_refl _) (.cells #[] 3)))
  cases hok : okSts l with
  | false =>
    have HOK := Lib.hid hok
    have HR := Lib.hid (franks_no1 (m := m) hok)
    clear hok
    go_enter Try.func30, Try.ntmps30
    go_wp2_with fail
    go_at_call 41
    refine (l2Stamps_any A _ c l _ HA.out hn).mono ?_
    rintro e w1 ⟨rfl, hb⟩
    rw [HOK.out]
    have K1 := Lib.hid (K0.out.next hb)
    clear hb
    go_wp2_with fail
    go_ret2
    rw [HR.out]
    exact ⟨_, _, rfl, K1.out⟩
  | true =>
    have HOK := Lib.hid hok
    clear hok
    cases hy : inB m 1 500 with
    | false =>
      have HY := Lib.hid hy
      have HR := Lib.hid (franks_no2 (l := l) hy)
      clear hy
      go_enter Try.func30, Try.ntmps30
      go_wp2_with fail
      go_at_call 41
      refine (l2Stamps_any A _ c l _ HA.out hn).mono ?_
      rintro e w1 ⟨rfl, hb⟩
      rw [HOK.out]
      have K1 := Lib.hid (K0.out.next hb)
      clear hb
      go_wp2_with (go_at_call 43; refine (l1In_any m _ _ _).mono ?_; rintro e w' ⟨rfl, rfl⟩; rw [HY.out])
      go_ret2
      rw [HR.out]
      exact ⟨_, _, rfl, K1.out⟩
    | true =>
      have HM := inB_of hy
      obtain ⟨mm, rfl⟩ : ∃ mm : Nat, m = (mm : Int) := ⟨m.toNat, by omega⟩
      have HY := Lib.hid hy
      have HR := Lib.hid (franks_yes HOK.out hy)
      clear hy
      go_enter Try.func30, Try.ntmps30
      go_wp2_with fail
      go_at_call 41
      refine (l2Stamps_any A _ c l _ HA.out hn).mono ?_
      rintro e w1 ⟨rfl, hb⟩
      rw [HOK.out]
      have K1 := Lib.hid (K0.out.next hb)
      have K1b := K1.out.bel.size
      clear hb
      go_wp2_with (first
        | (go_at_call 43; refine (l1In_any _ _ _ _).mono ?_; rintro e w' ⟨rfl, rfl⟩; rw [HY.out])
        | (at_make; refine wpList_make_full _ rfl _ _ 63 rfl w.heap.size 4 j0 (.bool false) 1 Try.underlying63 hj hy0 hy1 .i64 .i64 _ _ (mm + 1) rfl rfl (by first | rfl | omega) (by first | rfl | omega) (by rw [hy2]; omega) (by unfold maxLen; omega) K1b ?_; intro w2 hO hG; have BB := Lib.hid (both_start (l := l) K1.out hO hG (by omega)); obtain ⟨q0, z0⟩ := BB.out.tab.full (q := 0) (by omega); clear hO hG))
      have B1 : Hid (Both 4 w w1.heap.size (mm + 1) (bv l 1 0) (mm + 1) (some ⟨w.heap.size, 0, none⟩) 0 [] (w2.setCell ⟨w1.heap.size, 0, none⟩ (.bool true))) :=
        Lib.hid ((BB.out.set (by omega) (.bool true)).congr (fun u _ => by unfold bv; rw [← tbl_start]; split <;> rfl))
      generalize w1.heap.size = g at *
      clear q0 z0 BB K1 K1b
      go_loopw [6, 8] (fun v i wr => ∃ (k : Nat) (B : Option Addr) (cv' : Nat), 1 ≤ k ∧ k ≤ mm + 1 ∧ i = .int .i64 k ∧ v = .slice B (rates l k).length cv' ∧ Hid (Both 4 w g (mm + 1) (bv l k 0) (mm + 1) B cv' (rates l k) wr)) (fun _ i _ => mm + 1 - (intOf i).toNat)
      case atStart => exact ⟨1, _, 0, Nat.le_refl _, by omega, rfl, by rw [rates_one]; rfl, by rw [rates_one]; exact B1⟩
      case round =>
        obtain ⟨v, B, cv', hv1, hv2, rfl, rfl, HB⟩ := hrel
        by_cases hlt : v ≤ mm
        · have hle := rates_len l v
          go_wp2_with fail
          go_loopw [9] (fun j wr => ∃ k : Nat, k ≤ l.length ∧ j = .int .i64 k ∧ Hid (Both 4 w g (mm + 1) (bv l v k) (mm + 1) B cv' (rates l v) wr)) (fun j _ => l.length - (intOf j).toNat)
          case atStart => exact ⟨0, Nat.zero_le _, rfl, HB⟩
          case round =>
            obtain ⟨k, hk, rfl, HB⟩ := hrel
            by_cases hlk : k < l.length
            · obtain ⟨ab, ao, s, rfl, hx, hc0, hc1, hc2, hc3⟩ := Sts.at_ HH.out hlk
              have hs := okSt_yes (okSts_at HOK.out hx).1
              obtain ⟨ia, ib, ic, id⟩ := s
              have d1 := cell_below HB.out.out.bel hc1
              have HX := Lib.hid hx
              obtain ⟨_, hf, _, hyr⟩ := hs
              simp only at hf hyr
              clear hx hc0 hc1 hc2 hc3
              by_cases hb0 : 0 < ib
              · by_cases hb : ib ≤ (v : Int)
                · obtain ⟨f, rfl⟩ : ∃ f : Nat, ib = (f : Int) := ⟨ib.toNat, by omega⟩
                  have hu := use_yes (y := 2100) (v := v) (s := ⟨ia, f, ic, id⟩) hyr.2 hb0 hb
                  have i3 : (0 : Int) ≤ (v : Int) - (f : Int) := by omega
                  have i4 : (v : Int) - (f : Int) < ((mm + 1 : Nat) : Int) := by omega
                  have i5 : ((v : Int) - (f : Int)).toNat = v - f := by omega
                  have i6 : IntKind.i64.wrap ((v : Int) - (f : Int)) = (v : Int) - (f : Int) := IntWalk.i64_in _ (by omega)
                  have i7 : (v : Int) - (f : Int) < (mm : Int) + 1 := by omega
                  have p1 := (HB.out.tab.full (q := v - f) (by omega)).1
                  unfold bv at p1
                  rw [tbl_below (by omega)] at p1
                  cases hg : good l (v - f) with
                  | true =>
                    rw [hg] at p1
                    have HT := Lib.hid (tbl_hit (v := v) HX.out (by rw [hu]; simpa using hg))
                    have HS := Lib.hid ((HB.out.set (q := v) (by omega) (.bool true)).congr (T' := bv l v (k + 1)) (fun u _ => by unfold bv; rw [← HT.out u]; split <;> rfl))
                    obtain ⟨p2, z2⟩ := HB.out.tab.full (q := v) (by omega)
                    clear hg hu HB
                    go_wp2_with fail
                    go_roundw
                    case rel => exact ⟨k + 1, by omega, by go_num, HS⟩
                    case measure => simp [intOf]; omega
                  | false =>
                    rw [hg] at p1
                    have HT := Lib.hid (tbl_miss (v := v) HX.out (by rw [hu]; simpa using hg))
                    have HS := Lib.hid (HB.out.congr (T' := bv l v (k + 1)) (fun u _ => by unfold bv; rw [← HT.out u]))
                    clear hg hu HB
                    go_wp2_with fail
                    go_roundw
                    case rel => exact ⟨k + 1, by omega, by go_num, HS⟩
                    case measure => simp [intOf]; omega
                · have HT := Lib.hid (tbl_miss (v := v) HX.out (by rw [use_no (by rintro ⟨_, _, h⟩; exact hb h)]; rfl))
                  have HS := Lib.hid (HB.out.congr (T' := bv l v (k + 1)) (fun u _ => by unfold bv; rw [← HT.out u]))
                  clear HB
                  go_wp2_with fail
                  go_roundw
                  case rel => exact ⟨k + 1, by omega, by go_num, HS⟩
                  case measure => simp [intOf]; omega
              · have HT := Lib.hid (tbl_miss (v := v) HX.out (by rw [use_no (by rintro ⟨_, h, _⟩; exact hb0 h)]; rfl))
                have HS := Lib.hid (HB.out.congr (T' := bv l v (k + 1)) (fun u _ => by unfold bv; rw [← HT.out u]))
                clear HB
                go_wp2_with fail
                go_roundw
                case rel => exact ⟨k + 1, by omega, by go_num, HS⟩
                case measure => simp [intOf]; omega
            · obtain rfl : k = l.length := by omega
              have HS := Lib.hid (HB.out.congr (T' := bv l (v + 1) 0) (fun u _ => by unfold bv; rw [tbl_next l (by omega) (by omega)]))
              have p1 := (HS.out.tab.full (q := v) (by omega)).1
              have hsz := HS.out.out.bel.size
              unfold bv at p1
              rw [tbl_below (by omega)] at p1
              clear HB
              cases hg : good l v with
              | true =>
                rw [hg] at p1
                have HI := Lib.hid (rates_yes (by omega) hg)
                clear hg
                go_wp2_with (at_builtin; refine wpList_append_own_at _ rfl _ _ 35 rfl w.heap.size 3 i0 (.int .i64 0) 1 8 Try.underlying35 hi hz0 hz1 hz2 rfl (by decide) _ _ _ rfl ((HS.out.out.alloc _).own) ⟨wr.heap.size, 0, none⟩ 1 1 [.int .i64 (v : Int)] rfl rfl (cell_one_at rfl) (fun x hx => by simp at hx; subst hx; rfl) (by unfold maxLen; omega) (by omega) (by simp; omega) ?_; intro v' w3 hown' hgrow3 hnil3 hat3; clear hnil3; obtain ⟨g', cap, rfl, hK'⟩ := Both.push HS.out hown' hgrow3 hat3; have HK' := Lib.hid hK'; clear hown' hgrow3 hK' hat3)
                go_roundw
                case rel => exact ⟨v + 1, _, _, by omega, by omega, by go_num, by rw [HI.out, List.length_append]; rfl, by rw [HI.out]; exact HK'⟩
                case measure => simp [intOf]; omega
              | false =>
                rw [hg] at p1
                have HI := Lib.hid (rates_no hg)
                clear hg
                go_wp2_with fail
                go_roundw
                case rel => exact ⟨v + 1, B, cv', by omega, by omega, by go_num, by rw [HI.out], by rw [HI.out]; exact HS⟩
                case measure => simp [intOf]; omega
        · obtain rfl : v = mm + 1 := by omega
          go_wp2_with fail
          go_ret2
          rw [HR.out]
          exact ⟨_, _, rfl, HB.out.out⟩
end Go.Proofs.Ytmbfekfpahlmfaa.Frank
