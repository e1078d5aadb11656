/- The contracts of the laws' helpers eqStamp, eqStampS and markStampS. Condition: the slice reads as a list of stamps. -/
import Derived.Test.YtmbfekfpahlmfaaHelpStamp
import Derived.Test.YtmbfekfpahlmfaaHelpInt
import Derived.Lib.QuietBelow
namespace Go.Proofs.Ytmbfekfpahlmfaa.MarkStamp
set_option linter.unusedVariables false
open Go.RowKit
open Go.Proofs.Ytmbfekfpahlmfaa.Rowed Go.Proofs.Ytmbfekfpahlmfaa.PlainStamp Go.Proofs.Ytmbfekfpahlmfaa.Stamp Go.Proofs.Ytmbfekfpahlmfaa.HelpStamp

theorem below_class {X Y : World} (h : ∃ p : Regrown, Y = Go.Sort.grow (redrawn X p.d) p.os) : Below X.heap.size X Y := by
  obtain ⟨⟨d, os⟩, rfl⟩ := h; exact below_regrown _ _ _

theorem eqStamp_same (s : St) (w : World) :
    Calls Try.prog 42 #[s.val, s.val] w fun e w' => e = .returned (.bool true) ∧ Below w.heap.size w w' := by
  obtain ⟨a, b, c, d⟩ := s
  unfold St.val
  go_enter Try.func42, Try.ntmps42
  go_wp2
  go_ret
  exact ⟨rfl, ((Below.refl _ _).alloc (Nat.le_refl _) _).alloc (by simp) _⟩

set_option maxHeartbeats 1000000 in
/-- eqStampS, where both slices hold the same stamps -/
theorem eq_same (A B : Option Addr) (n c d : Nat) (l : List St) (w : World) (h1 : Sts w A n l) (h2 : Sts w B n l) (hn : n ≤ 9223372036854775807) :
    Calls Try.prog 18 #[.slice A n c, .slice B n d] w fun e w' => e = .returned (.bool true) ∧ Below w.heap.size w w' := by
  have H1 := Lib.hid h1
  have H2 := Lib.hid h2
  clear h1 h2
  go_enter Try.func18, Try.ntmps18
  go_wp2
  go_loopw [5] (fun i wr => ∃ k : Nat, k ≤ n ∧ i = .int .i64 k ∧ Hid (Below w.heap.size w wr)) (fun i _ => n - (intOf i).toNat)
  case atStart => exact ⟨0, Nat.zero_le _, rfl, Lib.hid (Below.refl _ _)⟩
  case round =>
    obtain ⟨k, hk, rfl, HB⟩ := hrel
    by_cases hlt : k < n
    · obtain ⟨ab, ao, s, rfl, hx, hc0, hc1, hc2, hc3⟩ := Sts.at_ H1.out hlt
      obtain ⟨bb, bo, s', rfl, hy, hd0, hd1, hd2, hd3⟩ := Sts.at_ H2.out hlt
      obtain rfl : s = s' := by rw [hx] at hy; exact Option.some.inj hy
      obtain ⟨ia, ib, ic, id⟩ := s
      have k0 := cell_regrown (cell_below HB.out hc0)
      have k1 := cell_regrown (cell_below HB.out hc1)
      have k2 := cell_regrown (cell_below HB.out hc2)
      have k3 := cell_regrown (cell_below HB.out hc3)
      have j0 := cell_regrown (cell_below HB.out hd0)
      have j1 := cell_regrown (cell_below HB.out hd1)
      have j2 := cell_regrown (cell_below HB.out hd2)
      have j3 := cell_regrown (cell_below HB.out hd3)
      clear hx hy hc0 hc1 hc2 hc3 hd0 hd1 hd2 hd3
      have hb1 : 0 ≤ (k : Int) := by omega
      have hb2 : (k : Int) < n := by omega
      have hcall : ∀ d os, Calls Try.prog 42 #[.agg #[.int .i64 ia, .int .i64 ib, .int .i64 ic, .int .i64 id], .agg #[.int .i64 ia, .int .i64 ib, .int .i64 ic, .int .i64 id]] (Go.Sort.grow (redrawn wr d) os) fun e w'' => e = .returned (.bool true) ∧ ∃ p : Regrown, w'' = Go.Sort.grow (redrawn wr p.d) p.os := fun d os => Calls.regrown_of (eqStamp_same ⟨ia, ib, ic, id⟩ _)
      go_wp2_with fail
      refine wp_region_quiet_below (by kernel_rfl) (by kernel_rfl) ?_
      repeat (go_big_quiet_step (exact hcall _ _))
      refine wpQuiet_nil ?_
      intro Y hY
      have HS := Lib.hid (Below.step HB.out (below_class hY))
      clear hY hcall k0 k1 k2 k3 j0 j1 j2 j3
      go_wp2_with fail
      go_roundw
      case rel => exact ⟨k + 1, by omega, by go_num, HS⟩
      case measure => simp [intOf]; omega
    · go_wp2
      go_ret
      exact ⟨rfl, HB.out⟩

/-- a row of stamps is written over with marks: what is left of it is not asked, only its cells are there -/
def MarkRel (w : World) (base g n c : Nat) (wr : World) : Prop :=
  (∃ xs, wr.ownsRow base 25 4 (.slice (some ⟨g, 0, none⟩) n c) n xs) ∧ w.grownBy wr (some g)
theorem mark_next {w wr : World} {base g n c i : Nat} (h : MarkRel w base g n c wr) (hi : i < n) (v0 v1 v2 v3 : Value) :
    ∃ y0 y1 y2 y3, wr.cell? ⟨g, i * 4, none⟩ = some y0 ∧ wr.cell? ⟨g, i * 4 + 1, none⟩ = some y1 ∧ wr.cell? ⟨g, i * 4 + 2, none⟩ = some y2 ∧ wr.cell? ⟨g, i * 4 + 3, none⟩ = some y3 ∧
      wr.frozen? ⟨g, i * 4, none⟩ = false ∧ wr.frozen? ⟨g, i * 4 + 1, none⟩ = false ∧ wr.frozen? ⟨g, i * 4 + 2, none⟩ = false ∧ wr.frozen? ⟨g, i * 4 + 3, none⟩ = false ∧
      MarkRel w base g n c ((((wr.setCell ⟨g, i * 4, none⟩ v0).setCell ⟨g, i * 4 + 1, none⟩ v1).setCell ⟨g, i * 4 + 2, none⟩ v2).setCell ⟨g, i * 4 + 3, none⟩ v3) := by
  obtain ⟨⟨xs, hO⟩, hG⟩ := h
  have hl := hO.1
  have hc := fun j (hj : j < n * 4) => (hO.cellAt j (by omega)).trans (List.getElem?_eq_getElem (by omega : j < xs.length))
  have s0 := hO.stored (i * 4) v0
  have s1 := s0.1.stored (i * 4 + 1) v1
  have s2 := s1.1.stored (i * 4 + 2) v2
  have s3 := s2.1.stored (i * 4 + 3) v3
  exact ⟨_, _, _, _, hc _ (by omega), hc _ (by omega), hc _ (by omega), hc _ (by omega), hO.frozenAt _, hO.frozenAt _, hO.frozenAt _, hO.frozenAt _, ⟨_, s3.1⟩, HelpInt.grown_tr hG (HelpInt.grown_tr s0.2 (HelpInt.grown_tr s1.2 (HelpInt.grown_tr s2.2 s3.2)))⟩

set_option maxHeartbeats 1000000 in
theorem mark_any (w : World) (base g n c : Nat) (xs : List Value) (h : w.ownsRow base 25 4 (.slice (some ⟨g, 0, none⟩) n c) n xs) (hn : n ≤ 1048576) :
    Calls Try.prog 22 #[.slice (some ⟨g, 0, none⟩) n c, .int .i64 1] w fun e w' => e = .returned (.int .i64 ((4 * n + 1 : Nat) : Int)) ∧ w.grownBy w' (some g) := by
  have HR0 : Hid (MarkRel w base g n c w) := Lib.hid ⟨⟨xs, h⟩, HelpInt.grown_refl _ _⟩
  clear h
  go_enter Try.func22, Try.ntmps22
  go_wp2_with fail
  go_loopw [1, 5] (fun t i wr => ∃ j : Nat, j ≤ n ∧ i = .int .i64 j ∧ t = .int .i64 ((4 * j + 1 : Nat) : Int) ∧ Hid (MarkRel w base g n c wr)) (fun _ i _ => n - (intOf i).toNat)
  case atStart => exact ⟨0, Nat.zero_le _, rfl, rfl, HR0⟩
  case round =>
    obtain ⟨j, hj, rfl, rfl, HR⟩ := hrel
    by_cases hlt : j < n
    · obtain ⟨y0, y1, y2, y3, g0, g1, g2, g3, z0, z1, z2, z3, hR1⟩ := mark_next HR.out hlt (.int .i64 ((4 * j + 1 : Nat) : Int)) (.int .i64 ((4 * j + 1 : Nat) + 1 : Int)) (.int .i64 ((4 * j + 1 : Nat) + 1 + 1 : Int)) (.int .i64 ((4 * j + 1 : Nat) + 1 + 1 + 1 : Int))
      have HR1 := Lib.hid hR1
      clear hR1
      go_wp2_with fail
      go_roundw
      case rel => exact ⟨j + 1, by omega, by go_num, by go_num, HR1⟩
      case measure => simp [intOf]; omega
    · obtain rfl : j = n := by omega
      have HF := Lib.hid HR.out.2
      go_wp2_with fail
      go_ret
      exact ⟨rfl, HF.out⟩
end Go.Proofs.Ytmbfekfpahlmfaa.MarkStamp
