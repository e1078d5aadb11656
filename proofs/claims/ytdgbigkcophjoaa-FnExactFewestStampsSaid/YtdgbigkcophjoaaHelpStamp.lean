/- The contracts of the laws' helpers on slices of stamps: szStampS, toStampS, eqStampS, markStampS. Condition: the slice reads as a list of stamps. -/
import Derived.Test.YtdgbigkcophjoaaStamp
import Derived.Lib.LaidU8
import Derived.BigQuiet
import Derived.Deep.QuietTactic
import Derived.Deep.RegionHeld3
import Derived.Laws.OwnMore
namespace Go.Proofs.Ytdgbigkcophjoaa.HelpStamp
set_option linter.unusedVariables false
open Go.RowKit
open Go.Proofs.Ytdgbigkcophjoaa.Rowed Go.Proofs.Ytdgbigkcophjoaa.PlainStamp Go.Proofs.Ytdgbigkcophjoaa.Stamp

theorem sz_neg (A : Option Addr) (n c : Nat) (w : World) (h : 1048576 < n) (hn : n ≤ 9223372036854775807) :
    Calls Try.prog 16 #[.slice A n c, .int .i64 1048576] w fun e w' => e = .returned (.int .i64 (-1)) ∧ w = w' := by
  go_enter Try.func16, Try.ntmps16
  go_wp2
  go_ret
  exact ⟨rfl, rfl⟩
theorem sz_pos (A : Option Addr) (n c : Nat) (w : World) (h : n ≤ 1048576) :
    Calls Try.prog 16 #[.slice A n c, .int .i64 1048576] w fun e w' => e = .returned (.int .i64 (1048576 - (n : Int))) ∧ w = w' := by
  go_enter Try.func16, Try.ntmps16
  go_wp2
  go_ret
  exact ⟨rfl, rfl⟩

/-- the slice 'A, n' reads as the stamps l -/
abbrev Sts (w : World) (A : Option Addr) (n : Nat) (l : List St) : Prop := Cells w 4 A n (flat l)
theorem add_none (b o n : Nat) : (⟨b, o, none⟩ : Addr).add n = ⟨b, o + n, none⟩ := by
  unfold Addr.add; split
  · rename_i h; subst h; rfl
  · rfl
theorem Sts.at_ {w : World} {A : Option Addr} {n k : Nat} {l : List St} (h : Sts w A n l) (hk : k < n) :
    ∃ (b o : Nat) (s : St), A = some ⟨b, o, none⟩ ∧ l[k]? = some s ∧ w.cell? ⟨b, o + k * 4, none⟩ = some (.int .i64 s.id) ∧ w.cell? ⟨b, o + k * 4 + 1, none⟩ = some (.int .i64 s.face) ∧ w.cell? ⟨b, o + k * 4 + 2, none⟩ = some (.int .i64 s.color) ∧ w.cell? ⟨b, o + k * 4 + 3, none⟩ = some (.int .i64 s.year) := by
  have hl : k < l.length := by have := h.1; rw [flat_len] at this; omega
  obtain ⟨⟨b, o, sp⟩, e, hc⟩ := h.2 (by rw [flat_len]; omega)
  have h0 := hc 0 _ (flat_at l 0 l[0] (List.getElem?_eq_getElem (by omega)) 0 (by omega))
  obtain rfl : sp = none := cell_spot (b := b) (o := o) h0
  have hs := List.getElem?_eq_getElem hl
  have f := flat_at l k _ hs
  have g := fun j u hu => add_none b o j ▸ hc j u hu
  exact ⟨b, o, l[k], e, hs, g _ _ (f 0 (by omega)), g _ _ (f 1 (by omega)), g _ _ (f 2 (by omega)), g _ _ (f 3 (by omega))⟩

theorem infoSt : (Try.prog.info? 73).map (fun i => (i.zero, i.size, i.bytes)) = some (some (.agg #[.int .i64 0, .int .i64 0, .int .i64 0, .int .i64 0]), 4, 32) := by kernel_rfl
theorem info_parts {P : Program} {T : TypeId} {z : Value} {s b : Nat} (h : (P.info? T).map (fun i => (i.zero, i.size, i.bytes)) = some (some z, s, b)) : ∃ i, P.info? T = some i ∧ i.zero = some z ∧ i.size = s ∧ i.bytes = b := by
  cases hi : P.info? T with
  | none => rw [hi] at h; simp at h
  | some i => rw [hi] at h; simp at h; exact ⟨i, rfl, h.1, h.2.1, h.2.2⟩

/-- toStampS: a new row with the same stamps -/
def ToPost (l : List St) (w : World) (e : Ending) (w' : World) : Prop :=
  ∃ g, e = .returned (.slice (some ⟨g, 0, none⟩) l.length l.length) ∧ w'.ownsRow w.heap.size 73 4 (.slice (some ⟨g, 0, none⟩) l.length l.length) l.length (flat l) ∧ Below w.heap.size w w'

def RelTo (l : List St) (ys : List Value) (w : World) (k : Nat) (wr : World) : Prop :=
  wr.ownsRow w.heap.size 73 4 (.slice (some ⟨w.heap.size, 0, none⟩) l.length l.length) l.length (fill (flat l) ys (k * 4)) ∧ Below w.heap.size w wr

theorem grown_of {W W' : World} (h : Below W.heap.size W W') : W.grownBy W' none := ⟨h.os, h.tape, h.output, h.size, fun k hk _ => h.block k hk⟩
/-- four cells of a row are written -/
theorem fill4 (a ys : List Value) (n : Nat) (h : n + 4 ≤ a.length) (hy : ys.length = a.length) (u0 u1 u2 u3 : Value) (h0 : a[n]? = some u0) (h1 : a[n+1]? = some u1) (h2 : a[n+2]? = some u2) (h3 : a[n+3]? = some u3) :
    ((((fill a ys n).set n u0).set (n + 1) u1).set (n + 2) u2).set (n + 3) u3 = fill a ys (n + 4) := by
  rw [fill_set a ys n u0 (by omega) h0, fill_set a ys (n+1) u1 (by omega) h1, fill_set a ys (n+2) u2 (by omega) h2, fill_set a ys (n+3) u3 (by omega) h3]
theorem rel_round {l : List St} {ys : List Value} {w wr w1 : World} {k : Nat} {s : St} (h : RelTo l ys w k wr) (hb : Below wr.heap.size wr w1) (hy : Hid (ys.length = l.length * 4)) (hx : l[k]? = some s) :
    ∃ y0 y1 y2 y3, w1.cell? ⟨w.heap.size, k * 4, none⟩ = some y0 ∧ w1.cell? ⟨w.heap.size, k * 4 + 1, none⟩ = some y1 ∧ w1.cell? ⟨w.heap.size, k * 4 + 2, none⟩ = some y2 ∧ w1.cell? ⟨w.heap.size, k * 4 + 3, none⟩ = some y3 ∧
      w1.frozen? ⟨w.heap.size, k * 4, none⟩ = false ∧ w1.frozen? ⟨w.heap.size, k * 4 + 1, none⟩ = false ∧ w1.frozen? ⟨w.heap.size, k * 4 + 2, none⟩ = false ∧ w1.frozen? ⟨w.heap.size, k * 4 + 3, none⟩ = false ∧
      RelTo l ys w (k + 1) ((((w1.setCell ⟨w.heap.size, k * 4, none⟩ (.int .i64 s.id)).setCell ⟨w.heap.size, k * 4 + 1, none⟩ (.int .i64 s.face)).setCell ⟨w.heap.size, k * 4 + 2, none⟩ (.int .i64 s.color)).setCell ⟨w.heap.size, k * 4 + 3, none⟩ (.int .i64 s.year)) := by
  have hy' : ys.length = l.length * 4 := hy
  have hk := (List.getElem?_eq_some_iff.1 hx).1
  have hB := Below.step h.2 hb
  have hO : w1.ownsRow w.heap.size 73 4 (.slice (some ⟨w.heap.size, 0, none⟩) l.length l.length) l.length (fill (flat l) ys (k * 4)) := h.1.kept (grown_of hb) (.inr (by simp [Value.ownBlock]))
  have hlen : (fill (flat l) ys (k * 4)).length = l.length * 4 := by rw [fill_len _ _ _ (by rw [flat_len]; exact hy')]; exact hy'
  have hc := fun j (hj : j < l.length * 4) => (hO.cellAt j (by omega)).trans (List.getElem?_eq_getElem (by omega : j < (fill (flat l) ys (k * 4)).length))
  have f := flat_at l k s hx
  refine ⟨_, _, _, _, hc _ (by omega), hc _ (by omega), hc _ (by omega), hc _ (by omega), hO.frozenAt _, hO.frozenAt _, hO.frozenAt _, hO.frozenAt _, ?_, (((hB.setCell (Nat.le_refl _) _).setCell (Nat.le_refl _) _).setCell (Nat.le_refl _) _).setCell (Nat.le_refl _) _⟩
  have e := fill4 (flat l) ys (k * 4) (by rw [flat_len]; omega) (by rw [flat_len]; exact hy') _ _ _ _ (f 0 (by omega)) (f 1 (by omega)) (f 2 (by omega)) (f 3 (by omega))
  rw [show (k + 1) * 4 = k * 4 + 4 by omega, ← e]
  exact ((((hO.stored (k * 4) (.int .i64 s.id)).1.stored (k * 4 + 1) (.int .i64 s.face)).1.stored (k * 4 + 2) (.int .i64 s.color)).1.stored (k * 4 + 3) (.int .i64 s.year)).1
theorem rel_end {l : List St} {ys : List Value} {w wr : World} (h : RelTo l ys w l.length wr) (hy : Hid (ys.length = l.length * 4)) :
    wr.ownsRow w.heap.size 73 4 (.slice (some ⟨w.heap.size, 0, none⟩) l.length l.length) l.length (flat l) ∧ Below w.heap.size w wr := by
  have hy' : ys.length = l.length * 4 := hy
  have e := fill_all (flat l) ys (by rw [flat_len]; exact hy')
  rw [flat_len] at e
  have h1 := h.1
  rw [e] at h1
  exact ⟨h1, h.2⟩
theorem rel_start {l : List St} {w w1 : World} {ys : List Value} (h : w1.ownsRow w.heap.size 73 4 (.slice (some ⟨w.heap.size, 0, none⟩) l.length l.length) l.length ys) (hg : w.grownBy w1 none) :
    ∃ zs : List Value, Hid (zs.length = l.length * 4) ∧ RelTo l zs w 0 w1 :=
  ⟨ys, Lib.hid (by have := h.1; omega), by rw [Nat.zero_mul, fill_zero]; exact h, (Below.refl _ _).grown hg (Nat.le_refl _) (by simp)⟩

set_option maxHeartbeats 800000 in
theorem to_any (A : Option Addr) (c : Nat) (l : List St) (w : World) (h : Sts w A l.length l) (hn : l.length ≤ 1048576) :
    Calls Try.prog 18 #[.slice A l.length c] w (ToPost l w) := by
  obtain ⟨i0, hi, hz0, hz1, hz2⟩ := info_parts infoSt
  have HH := Lib.hid h
  clear h
  go_enter Try.func18, Try.ntmps18
  go_wp2_with (at_make; refine wpList_make_full _ rfl _ _ 25 rfl w.heap.size 73 i0 (.agg #[.int .i64 0, .int .i64 0, .int .i64 0, .int .i64 0]) 4 Try.underlying25 hi hz0 hz1 .i64 .i64 _ _ l.length rfl rfl rfl rfl (by rw [hz2]; omega) (by unfold maxLen; omega) (Nat.le_refl _) ?_; intro w1 hO hG; obtain ⟨ys, hys, hR0⟩ := rel_start hO hG; clear hO hG)
  go_loopw [4] (fun i wr => ∃ k : Nat, k ≤ l.length ∧ i = .int .i64 k ∧ Hid (RelTo l ys w k wr)) (fun i _ => l.length - (intOf i).toNat)
  case atStart => exact ⟨0, Nat.zero_le _, rfl, Lib.hid hR0⟩
  case round =>
    obtain ⟨k, hk, rfl, hR⟩ := hrel
    by_cases hlt : k < l.length
    · obtain ⟨ab, ao, s, rfl, hx, hc0, hc1, hc2, hc3⟩ := Sts.at_ HH.out hlt
      obtain ⟨ia, ib, ic, id⟩ := s
      have d0 := cell_below hR.out.2 hc0
      have d1 := cell_below hR.out.2 hc1
      have d2 := cell_below hR.out.2 hc2
      have d3 := cell_below hR.out.2 hc3
      have HX := Lib.hid hx
      clear hx hc0 hc1 hc2 hc3
      go_wp2_with fail
      go_at_call 62
      refine (toStamp_any ⟨ia, ib, ic, id⟩ wr).mono ?_
      rintro e w1 ⟨rfl, hb⟩
      obtain ⟨y0, y1, y2, y3, g0, g1, g2, g3, z0, z1, z2, z3, hset⟩ := rel_round hR.out hb hys HX.out
      have HS := Lib.hid hset
      clear d0 d1 d2 d3 hb hset hR
      unfold St.val
      go_wp2
      go_roundw
      case rel => exact ⟨k + 1, by omega, by go_num, HS⟩
      case measure => simp [intOf]; omega
    · obtain rfl : k = l.length := by omega
      have HF := Lib.hid (rel_end hR.out hys)
      clear hR
      go_wp2
      go_ret
      exact ⟨_, rfl, HF.out⟩
end Go.Proofs.Ytdgbigkcophjoaa.HelpStamp
