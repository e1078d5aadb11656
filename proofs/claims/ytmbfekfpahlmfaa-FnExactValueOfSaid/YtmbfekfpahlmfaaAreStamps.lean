/- The contracts of the tests of a list of stamps: AreStamps, and the reference's l2Stamps and AreStamps. Condition: the slice reads as a list of stamps. -/
import Derived.Test.YtmbfekfpahlmfaaHelpStamp
import Derived.IntWalk
import Derived.Lib.QuietBelow
namespace Go.Proofs.Ytmbfekfpahlmfaa.AreStamps
set_option linter.unusedVariables false
open Go.RowKit
open Go.Proofs.Ytmbfekfpahlmfaa.Rowed Go.Proofs.Ytmbfekfpahlmfaa.PlainStamp Go.Proofs.Ytmbfekfpahlmfaa.Stamp Go.Proofs.Ytmbfekfpahlmfaa.HelpStamp

def Bpost (b : Bool) (w : World) (e : Ending) (w' : World) : Prop := e = .returned (.bool b) ∧ Below w.heap.size w w'

theorem below_class {X Y : World} (h : ∃ p : Regrown, Y = Go.Sort.grow (redrawn X p.d) p.os) : Below X.heap.size X Y := by
  obtain ⟨⟨d, os⟩, rfl⟩ := h; exact below_regrown _ _ _
theorem okAt_bad {l : List St} {k : Nat} {s : St} (hs : l[k]? = some s) (h : okSt s = false) : okAt l k = false := by unfold okAt; rw [hs]; simp [h]
theorem okAt_first {l : List St} {s : St} (hs : l[0]? = some s) (h : okSt s = true) : okAt l 0 = true := by unfold okAt; rw [hs]; simp [h]
theorem okAt_next {l : List St} {k : Nat} {s r : St} (hs : l[k]? = some s) (hr : l[k-1]? = some r) (hk : 0 < k) (h : okSt s = true) : okAt l k = decide (r.id < s.id) := by
  unfold okAt; rw [hs]; simp only [hr, h, Bool.true_and, decide_eq_false (show ¬ k = 0 by omega), Bool.false_or]

set_option maxHeartbeats 1000000 in
theorem are_impl (A : Option Addr) (n c : Nat) (l : List St) (w : World) (h : Sts w A n l) (hn : n ≤ 9223372036854775807) :
    Calls Try.prog 17 #[.slice A n c] w (Bpost (okSts l) w) := by
  have hl : Hid (l.length = n) := Lib.hid (by have := h.1; rw [flat_len] at this; omega)
  by_cases h12 : 12 < n
  · have hR : Hid (okSts l = false) := Lib.hid (by unfold okSts; rw [hl.out]; simp; omega)
    clear h
    go_enter Try.func17, Try.ntmps17
    go_wp2
    go_ret
    exact ⟨by rw [hR.out]; rfl, Below.refl _ _⟩
  · have HH := Lib.hid h
    have h12' : decide ((12 : Int) < (n : Int)) = false := by simp; omega
    clear h
    go_enter Try.func17, Try.ntmps17
    go_wp2
    clear h12'
    go_loopw [10] (fun i wr => ∃ k : Nat, k ≤ n ∧ i = .int .i64 k ∧ Hid (okUp l k = true) ∧ Hid (Below w.heap.size w wr)) (fun i _ => n - (intOf i).toNat)
    case atStart => exact ⟨0, Nat.zero_le _, rfl, Lib.hid (okUp_zero l), Lib.hid (Below.refl _ _)⟩
    case round =>
      obtain ⟨k, hk, rfl, hU, hB⟩ := hrel
      by_cases hlt : k < n
      · obtain ⟨ab, ao, s, rfl, hx, hc0, hc1, hc2, hc3⟩ := Sts.at_ HH.out hlt
        obtain ⟨ia, ib, ic, id⟩ := s
        have d0 := cell_below hB.out hc0
        have d1 := cell_below hB.out hc1
        have d2 := cell_below hB.out hc2
        have d3 := cell_below hB.out hc3
        have HX := Lib.hid hx
        clear hx hc0 hc1 hc2 hc3
        go_wp2_with fail
        have lw : w.heap.size ≤ wr.heap.size := hB.out.size
        obtain ⟨X, hX⟩ : ∃ X, X = wr.alloc (Obj.cells #[Value.int IntKind.i64 ia, Value.int IntKind.i64 ib, Value.int IntKind.i64 ic, Value.int IntKind.i64 id] 25) := ⟨_, rfl⟩
        rw [← hX]
        obtain ⟨e0, e1, e2, e3⟩ : X.cell? ⟨wr.heap.size, 0, none⟩ = some (.int .i64 ia) ∧ X.cell? ⟨wr.heap.size, 1, none⟩ = some (.int .i64 ib) ∧ X.cell? ⟨wr.heap.size, 2, none⟩ = some (.int .i64 ic) ∧ X.cell? ⟨wr.heap.size, 3, none⟩ = some (.int .i64 id) := by
          rw [hX]; exact box4 (Below.refl _ _)
        have eB : Below w.heap.size w X := by rw [hX]; exact hB.out.alloc lw _
        have HB := Lib.hid eB
        have k0 := cell_regrown e0
        have k1 := cell_regrown e1
        have k2 := cell_regrown e2
        have k3 := cell_regrown e3
        clear d0 d1 d2 d3 hX lw hB e0 e1 e2 e3 eB
        generalize wr.heap.size = g at *
        by_cases hk0 : k = 0
        · subst hk0
          have hpos : decide ((0 : Int) < ((0 : Nat) : Int)) = false := by simp
          cases hok : okSt ⟨ia, ib, ic, id⟩ with
          | false =>
            have HOK := Lib.hid hok
            have hcall : ∀ d os, Calls Try.prog 13 #[.agg #[.int .i64 ia, .int .i64 ib, .int .i64 ic, .int .i64 id]] (Go.Sort.grow (redrawn X d) os) fun e w'' => e = .returned (.bool false) ∧ ∃ p : Regrown, w'' = Go.Sort.grow (redrawn X p.d) p.os := fun d os => Calls.regrown_of ((isStamp_impl ⟨ia, ib, ic, id⟩ _).mono fun e w' h => by rw [HOK.out] at h; exact h)
            clear hok
            refine wp_region_quiet_below (by kernel_rfl) (by kernel_rfl) ?_
            repeat (go_big_quiet_step (exact hcall _ _))
            refine wpQuiet_nil ?_
            intro Y hY
            have HS := Lib.hid (Below.step HB.out (below_class hY))
            clear hY hcall k0 k1 k2 k3
            clear hpos
            go_wp2_with fail
            go_ret
            have : okSts l = false := by
              unfold okSts; rw [hl.out, okUp_not (okAt_bad HX.out HOK.out) hlt]; simp
            exact ⟨by rw [this]; rfl, HS.out⟩
          | true =>
            have HOK := Lib.hid hok
            have hcall : ∀ d os, Calls Try.prog 13 #[.agg #[.int .i64 ia, .int .i64 ib, .int .i64 ic, .int .i64 id]] (Go.Sort.grow (redrawn X d) os) fun e w'' => e = .returned (.bool true) ∧ ∃ p : Regrown, w'' = Go.Sort.grow (redrawn X p.d) p.os := fun d os => Calls.regrown_of ((isStamp_impl ⟨ia, ib, ic, id⟩ _).mono fun e w' h => by rw [HOK.out] at h; exact h)
            clear hok
            refine wp_region_quiet_below (by kernel_rfl) (by kernel_rfl) ?_
            repeat (go_big_quiet_step (exact hcall _ _))
            refine wpQuiet_nil ?_
            intro Y hY
            have HS := Lib.hid (Below.step HB.out (below_class hY))
            clear hY hcall k0 k1 k2 k3
            have HU := Lib.hid (show okUp l (0 + 1) = true by rw [okUp_succ, hU.out, okAt_first HX.out HOK.out]; rfl)
            clear hpos
            go_wp2_with fail
            go_roundw
            case rel => exact ⟨0 + 1, by omega, by go_num, HU, HS⟩
            case measure => simp [intOf]; omega
        · obtain ⟨ab', ao', r, hA, hr, hr0, _, _, _⟩ := Sts.at_ (k := k - 1) HH.out (by omega)
          obtain ⟨ra, rb, rc, rd⟩ := r
          simp only [Option.some.injEq, Addr.mk.injEq] at hA
          obtain ⟨rfl, rfl, _⟩ := hA
          have k4 := cell_regrown (show X.cell? ⟨ab, ao + (k - 1) * 4, none⟩ = some (.int .i64 ra) from cell_below HB.out hr0)
          have HR := Lib.hid hr
          have hkpos : 0 < k := by omega
          have hpos : decide ((0 : Int) < (k : Int)) = true := by simp; omega
          have hw : IntKind.i64.wrap ((k : Int) - 1) = (k : Int) - 1 := IntWalk.i64_in _ (by omega)
          have hi0 : (0 : Int) ≤ (k : Int) - 1 := by omega
          have hi1 : (k : Int) - 1 < (n : Int) := by omega
          have hi2 : ((k : Int) - 1).toNat = k - 1 := by omega
          clear hr hr0
          cases hok : okSt ⟨ia, ib, ic, id⟩ with
          | false =>
            have HOK := Lib.hid hok
            have hcall : ∀ d os, Calls Try.prog 13 #[.agg #[.int .i64 ia, .int .i64 ib, .int .i64 ic, .int .i64 id]] (Go.Sort.grow (redrawn X d) os) fun e w'' => e = .returned (.bool false) ∧ ∃ p : Regrown, w'' = Go.Sort.grow (redrawn X p.d) p.os := fun d os => Calls.regrown_of ((isStamp_impl ⟨ia, ib, ic, id⟩ _).mono fun e w' h => by rw [HOK.out] at h; exact h)
            clear hok
            refine wp_region_quiet_below (by kernel_rfl) (by kernel_rfl) ?_
            repeat (go_big_quiet_step (exact hcall _ _))
            refine wpQuiet_nil ?_
            intro Y hY
            have HS := Lib.hid (Below.step HB.out (below_class hY))
            clear hY hcall k0 k1 k2 k3
            clear k4 hw hi2
            go_wp2_with fail
            go_ret
            have : okSts l = false := by
              unfold okSts; rw [hl.out, okUp_not (okAt_bad HX.out HOK.out) hlt]; simp
            exact ⟨by rw [this]; rfl, HS.out⟩
          | true =>
            have HOK := Lib.hid hok
            have hcall : ∀ d os, Calls Try.prog 13 #[.agg #[.int .i64 ia, .int .i64 ib, .int .i64 ic, .int .i64 id]] (Go.Sort.grow (redrawn X d) os) fun e w'' => e = .returned (.bool true) ∧ ∃ p : Regrown, w'' = Go.Sort.grow (redrawn X p.d) p.os := fun d os => Calls.regrown_of ((isStamp_impl ⟨ia, ib, ic, id⟩ _).mono fun e w' h => by rw [HOK.out] at h; exact h)
            clear hok
            have HN := Lib.hid (okAt_next HX.out HR.out hkpos HOK.out)
            by_cases hlt2 : ra < ia
            · have hc : decide (ia ≤ ra) = false := by simp; omega
              refine wp_region_quiet_below (by kernel_rfl) (by kernel_rfl) ?_
              repeat (go_big_quiet_step (exact hcall _ _))
              refine wpQuiet_nil ?_
              intro Y hY
              have HS := Lib.hid (Below.step HB.out (below_class hY))
              clear hY hcall k0 k1 k2 k3
              have HU := Lib.hid (show okUp l (k + 1) = true by rw [okUp_succ, hU.out, HN.out]; simp; exact hlt2)
              clear k4 hw hi2 hc
              go_wp2_with fail
              go_roundw
              case rel => exact ⟨k + 1, by omega, by go_num, HU, HS⟩
              case measure => simp [intOf]; omega
            · have hc : decide (ia ≤ ra) = true := by simp; omega
              refine wp_region_quiet_below (by kernel_rfl) (by kernel_rfl) ?_
              repeat (go_big_quiet_step (exact hcall _ _))
              refine wpQuiet_nil ?_
              intro Y hY
              have HS := Lib.hid (Below.step HB.out (below_class hY))
              clear hY hcall k0 k1 k2 k3
              clear k4 hw hi2 hc
              go_wp2_with fail
              go_ret
              have : okSts l = false := by
                unfold okSts; rw [hl.out, okUp_not (by rw [HN.out]; simp; omega) hlt]; simp
              exact ⟨by rw [this]; rfl, HS.out⟩
      · obtain rfl : k = n := by omega
        go_wp2_with fail
        go_ret
        have : okSts l = true := by unfold okSts; rw [hl.out, hU.out]; simp; omega
        exact ⟨by rw [this]; rfl, hB.out⟩

set_option maxHeartbeats 1000000 in
theorem l2Stamps_any (A : Option Addr) (n c : Nat) (l : List St) (w : World) (h : Sts w A n l) (hn : n ≤ 1048576) :
    Calls Try.prog 41 #[.slice A n c] w (Bpost (okSts l) w) := by
  have hl : Hid (l.length = n) := Lib.hid (by have := h.1; rw [flat_len] at this; omega)
  have HH := Lib.hid h
  clear h
  go_enter Try.func41, Try.ntmps41
  go_wp2
  go_loopw [3] (fun i wr => ∃ k : Nat, k ≤ n ∧ i = .int .i64 k ∧ Hid (okUp l k = true) ∧ Hid (Below w.heap.size w wr)) (fun i _ => n - (intOf i).toNat)
  case atStart => exact ⟨0, Nat.zero_le _, rfl, Lib.hid (okUp_zero l), Lib.hid (Below.refl _ _)⟩
  case round =>
    obtain ⟨k, hk, rfl, hU, hB⟩ := hrel
    by_cases hlt : k < n
    · obtain ⟨ab, ao, s, rfl, hx, hc0, hc1, hc2, hc3⟩ := Sts.at_ HH.out hlt
      obtain ⟨ia, ib, ic, id⟩ := s
      have k0 := cell_regrown (cell_below hB.out hc0)
      have k1 := cell_regrown (cell_below hB.out hc1)
      have k2 := cell_regrown (cell_below hB.out hc2)
      have k3 := cell_regrown (cell_below hB.out hc3)
      have HX := Lib.hid hx
      clear hx hc0 hc1 hc2 hc3
      go_wp2_with fail
      by_cases hk0 : k = 0
      · subst hk0
        simp only [Nat.zero_mul, Nat.add_zero] at k0 k1 k2 k3
        have hpos : decide ((0 : Int) < ((0 : Nat) : Int)) = false := by simp
        cases hok : okSt ⟨ia, ib, ic, id⟩ with
        | false =>
          have HOK := Lib.hid hok
          have hcall : ∀ d os, Calls Try.prog 39 #[.agg #[.int .i64 ia, .int .i64 ib, .int .i64 ic, .int .i64 id]] (Go.Sort.grow (redrawn wr d) os) fun e w'' => e = .returned (.bool false) ∧ ∃ p : Regrown, w'' = Go.Sort.grow (redrawn wr p.d) p.os := fun d os => Calls.regrown_of ((l2Stamp_any ⟨ia, ib, ic, id⟩ _).mono fun e w' h => by rw [HOK.out] at h; exact h)
          clear hok
          refine wp_region_quiet_below (by kernel_rfl) (by kernel_rfl) ?_
          repeat (go_big_quiet_step (exact hcall _ _))
          refine wpQuiet_nil ?_
          intro Y hY
          have HS := Lib.hid (Below.step hB.out (below_class hY))
          clear hY hcall k0 k1 k2 k3 hpos
          go_wp2_with fail
          go_ret
          have : okSts l = false := by
            unfold okSts; rw [hl.out, okUp_not (okAt_bad HX.out HOK.out) hlt]; simp
          exact ⟨by rw [this]; rfl, HS.out⟩
        | true =>
          have HOK := Lib.hid hok
          have hcall : ∀ d os, Calls Try.prog 39 #[.agg #[.int .i64 ia, .int .i64 ib, .int .i64 ic, .int .i64 id]] (Go.Sort.grow (redrawn wr d) os) fun e w'' => e = .returned (.bool true) ∧ ∃ p : Regrown, w'' = Go.Sort.grow (redrawn wr p.d) p.os := fun d os => Calls.regrown_of ((l2Stamp_any ⟨ia, ib, ic, id⟩ _).mono fun e w' h => by rw [HOK.out] at h; exact h)
          clear hok
          refine wp_region_quiet_below (by kernel_rfl) (by kernel_rfl) ?_
          repeat (go_big_quiet_step (exact hcall _ _))
          refine wpQuiet_nil ?_
          intro Y hY
          have HS := Lib.hid (Below.step hB.out (below_class hY))
          clear hY hcall k0 k1 k2 k3 hpos
          have HU := Lib.hid (show okUp l (0 + 1) = true by rw [okUp_succ, hU.out, okAt_first HX.out HOK.out]; rfl)
          go_wp2_with fail
          go_roundw
          case rel => exact ⟨0 + 1, by omega, by go_num, HU, HS⟩
          case measure => simp [intOf]; omega
      · obtain ⟨ab', ao', r, hA, hr, hr0, _, _, _⟩ := Sts.at_ (k := k - 1) HH.out (by omega)
        obtain ⟨ra, rb, rc, rd⟩ := r
        simp only [Option.some.injEq, Addr.mk.injEq] at hA
        obtain ⟨rfl, rfl, _⟩ := hA
        have k4 := cell_regrown (show wr.cell? ⟨ab, ao + (k - 1) * 4, none⟩ = some (.int .i64 ra) from cell_below hB.out hr0)
        have HR := Lib.hid hr
        have hkpos : 0 < k := by omega
        have hpos : decide ((0 : Int) < (k : Int)) = true := by simp; omega
        have hw : IntKind.i64.wrap ((k : Int) - 1) = (k : Int) - 1 := IntWalk.i64_in _ (by omega)
        have hi0 : (0 : Int) ≤ (k : Int) - 1 := by omega
        have hi1 : (k : Int) - 1 < (n : Int) := by omega
        have hi2 : ((k : Int) - 1).toNat = k - 1 := by omega
        clear hr hr0
        cases hok : okSt ⟨ia, ib, ic, id⟩ with
        | false =>
          have HOK := Lib.hid hok
          have hcall : ∀ d os, Calls Try.prog 39 #[.agg #[.int .i64 ia, .int .i64 ib, .int .i64 ic, .int .i64 id]] (Go.Sort.grow (redrawn wr d) os) fun e w'' => e = .returned (.bool false) ∧ ∃ p : Regrown, w'' = Go.Sort.grow (redrawn wr p.d) p.os := fun d os => Calls.regrown_of ((l2Stamp_any ⟨ia, ib, ic, id⟩ _).mono fun e w' h => by rw [HOK.out] at h; exact h)
          clear hok
          refine wp_region_quiet_below (by kernel_rfl) (by kernel_rfl) ?_
          repeat (go_big_quiet_step (exact hcall _ _))
          refine wpQuiet_nil ?_
          intro Y hY
          have HS := Lib.hid (Below.step hB.out (below_class hY))
          clear hY hcall k0 k1 k2 k3 k4 hw hi2
          go_wp2_with fail
          go_ret
          have : okSts l = false := by
            unfold okSts; rw [hl.out, okUp_not (okAt_bad HX.out HOK.out) hlt]; simp
          exact ⟨by rw [this]; rfl, HS.out⟩
        | true =>
          have HOK := Lib.hid hok
          have hcall : ∀ d os, Calls Try.prog 39 #[.agg #[.int .i64 ia, .int .i64 ib, .int .i64 ic, .int .i64 id]] (Go.Sort.grow (redrawn wr d) os) fun e w'' => e = .returned (.bool true) ∧ ∃ p : Regrown, w'' = Go.Sort.grow (redrawn wr p.d) p.os := fun d os => Calls.regrown_of ((l2Stamp_any ⟨ia, ib, ic, id⟩ _).mono fun e w' h => by rw [HOK.out] at h; exact h)
          clear hok
          have HN := Lib.hid (okAt_next HX.out HR.out hkpos HOK.out)
          by_cases hlt2 : ra < ia
          · have hc : decide (ia ≤ ra) = false := by simp; omega
            refine wp_region_quiet_below (by kernel_rfl) (by kernel_rfl) ?_
            repeat (go_big_quiet_step (exact hcall _ _))
            refine wpQuiet_nil ?_
            intro Y hY
            have HS := Lib.hid (Below.step hB.out (below_class hY))
            clear hY hcall k0 k1 k2 k3 k4 hw hi2 hc
            have HU := Lib.hid (show okUp l (k + 1) = true by rw [okUp_succ, hU.out, HN.out]; simp; exact hlt2)
            go_wp2_with fail
            go_roundw
            case rel => exact ⟨k + 1, by omega, by go_num, HU, HS⟩
            case measure => simp [intOf]; omega
          · have hc : decide (ia ≤ ra) = true := by simp; omega
            refine wp_region_quiet_below (by kernel_rfl) (by kernel_rfl) ?_
            repeat (go_big_quiet_step (exact hcall _ _))
            refine wpQuiet_nil ?_
            intro Y hY
            have HS := Lib.hid (Below.step hB.out (below_class hY))
            clear hY hcall k0 k1 k2 k3 k4 hw hi2 hc
            go_wp2_with fail
            go_ret
            have : okSts l = false := by
              unfold okSts; rw [hl.out, okUp_not (by rw [HN.out]; simp; omega) hlt]; simp
            exact ⟨by rw [this]; rfl, HS.out⟩
    · obtain rfl : k = n := by omega
      have hE : Hid (okSts l = decide (k ≤ 12)) := Lib.hid (by unfold okSts; rw [hl.out, hU.out]; simp)
      by_cases h12 : k ≤ 12
      · go_wp2_with fail
        go_ret
        exact ⟨by rw [hE.out]; simp [h12]; omega, hB.out⟩
      · go_wp2_with fail
        go_ret
        exact ⟨by rw [hE.out]; simp [h12]; omega, hB.out⟩
theorem are_spec (A : Option Addr) (n c : Nat) (l : List St) (w : World) (h : Sts w A n l) (hn : n ≤ 1048576) :
    Calls Try.prog 15 #[.slice A n c] w (Bpost (okSts l) w) := by
  have HH := Lib.hid h
  clear h
  go_enter Try.func15, Try.ntmps15
  go_wp2_with (go_at_call 41; refine (l2Stamps_any A n c l _ HH.out hn).mono ?_; rintro e w' ⟨rfl, hb⟩)
  go_ret
  exact ⟨rfl, hb⟩
end Go.Proofs.Ytmbfekfpahlmfaa.AreStamps
