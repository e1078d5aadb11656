/- The contracts of the laws' helpers toIntS and szIntS. Condition: the slice reads as a list of ints. -/
import Derived.Test.YtdgbigkcophjoaaHelpInt
import Derived.Test.YtdgbigkcophjoaaOutInt
import Derived.Test.YtdgbigkcophjoaaTurn
import Derived.Test.YtdgbigkcophjoaaAid
import Derived.Deep.RegionHeld3
import Derived.Laws.OwnMore
namespace Go.Proofs.Ytdgbigkcophjoaa.RInt
set_option linter.unusedVariables false
open Go.RowKit
open Go.Proofs.Ytdgbigkcophjoaa.Rowed Go.Proofs.Ytdgbigkcophjoaa.HelpInt

theorem infoI : (Try.prog.info? 3).map (fun i => (i.zero, i.size, i.bytes)) = some (some (.int .i64 0), 1, 8) := by kernel_rfl
theorem info_parts {P : Program} {T : TypeId} {z : Value} {s b : Nat} (h : (P.info? T).map (fun i => (i.zero, i.size, i.bytes)) = some (some z, s, b)) : ∃ i, P.info? T = some i ∧ i.zero = some z ∧ i.size = s ∧ i.bytes = b := Aid.info_parts h
/-- toIntS: a new row with the same ints -/
def ToPost (l : List Int) (w : World) (e : Ending) (w' : World) : Prop :=
  ∃ g, e = .returned (.slice (some ⟨g, 0, none⟩) l.length l.length) ∧ w'.ownsRow w.heap.size 3 1 (.slice (some ⟨g, 0, none⟩) l.length l.length) l.length (iv l) ∧ Below w.heap.size w w'
def RelTo (l : List Int) (ys : List Value) (w : World) (k : Nat) (wr : World) : Prop :=
  wr.ownsRow w.heap.size 3 1 (.slice (some ⟨w.heap.size, 0, none⟩) l.length l.length) l.length (fill (iv l) ys k) ∧ Below w.heap.size w wr
theorem rel_start {l : List Int} {w w1 : World} {ys : List Value} (h : w1.ownsRow w.heap.size 3 1 (.slice (some ⟨w.heap.size, 0, none⟩) l.length l.length) l.length ys) (hg : w.grownBy w1 none) :
    ∃ zs : List Value, Hid (zs.length = l.length) ∧ RelTo l zs w 0 w1 :=
  ⟨ys, Lib.hid (by have := h.1; omega), by rw [fill_zero]; exact h, (Below.refl _ _).grown hg (Nat.le_refl _) (by simp)⟩
theorem rel_round {l : List Int} {ys : List Value} {w wr : World} {k : Nat} {x : Int} (h : RelTo l ys w k wr) (hy : Hid (ys.length = l.length)) (hx : l[k]? = some x) :
    ∃ y, wr.cell? ⟨w.heap.size, k, none⟩ = some y ∧ wr.frozen? ⟨w.heap.size, k, none⟩ = false ∧ RelTo l ys w (k + 1) (wr.setCell ⟨w.heap.size, k, none⟩ (.int .i64 x)) := by
  have hy' : ys.length = l.length := hy
  have hk := (List.getElem?_eq_some_iff.1 hx).1
  have hlen : (fill (iv l) ys k).length = l.length := by rw [fill_len _ _ _ (by rw [iv_len]; exact hy')]; exact hy'
  have hc := h.1.cellAt k (by omega)
  rw [List.getElem?_eq_getElem (by omega)] at hc
  refine ⟨_, hc, h.1.frozenAt k, ?_, h.2.setCell (Nat.le_refl _) _⟩
  have := (h.1.stored k (.int .i64 x)).1
  rw [fill_set _ _ _ _ (by omega) (by rw [iv_at, hx]; rfl)] at this
  exact this
theorem rel_end {l : List Int} {ys : List Value} {w wr : World} (h : RelTo l ys w l.length wr) (hy : Hid (ys.length = l.length)) :
    wr.ownsRow w.heap.size 3 1 (.slice (some ⟨w.heap.size, 0, none⟩) l.length l.length) l.length (iv l) ∧ Below w.heap.size w wr := by
  have hy' : ys.length = l.length := hy
  have e := fill_all (iv l) ys (by rw [iv_len]; exact hy')
  rw [iv_len] at e
  have h1 := h.1
  rw [e] at h1
  exact ⟨h1, h.2⟩

set_option maxHeartbeats 800000 in
theorem to_any (A : Option Addr) (c : Nat) (l : List Int) (w : World) (h : Ints w A l.length l) (hn : l.length ≤ 1048576) :
    Calls Try.prog 28 #[.slice A l.length c] w (ToPost l w) := by
  obtain ⟨i0, hi, hz0, hz1, hz2⟩ := info_parts infoI
  have HH := Lib.hid h
  clear h
  go_enter Try.func28, Try.ntmps28
  go_wp2_with (at_make; refine wpList_make_full _ rfl _ _ 29 rfl w.heap.size 3 i0 (.int .i64 0) 1 Try.underlying29 hi hz0 hz1 .i64 .i64 _ _ l.length rfl rfl rfl rfl (by rw [hz2]; omega) (by unfold maxLen; omega) (Nat.le_refl _) ?_; intro w1 hO hG; obtain ⟨ys, hys, hR0⟩ := rel_start hO hG; clear hO hG)
  go_loopw [4] (fun i wr => ∃ k : Nat, k ≤ l.length ∧ i = .int .i64 k ∧ RelTo l ys w k wr) (fun i _ => l.length - (intOf i).toNat)
  case atStart => exact ⟨0, Nat.zero_le _, rfl, hR0⟩
  case round =>
    obtain ⟨k, hk, rfl, hR⟩ := hrel
    by_cases hlt : k < l.length
    · obtain ⟨ab, ao, x, rfl, hx, hcell0⟩ := Ints.at_ HH.out hlt
      have hcell := cell_below hR.2 hcell0
      obtain ⟨y, hc, hf, hset⟩ := rel_round hR hys hx
      have HS := Lib.hid hset
      clear hR hx hcell0 hset
      go_wp2
      go_roundw
      case rel => exact ⟨k + 1, by omega, by go_num, HS.out⟩
      case measure => simp [intOf]; omega
    · obtain rfl : k = l.length := by omega
      have HF := Lib.hid (rel_end hR hys)
      clear hR
      go_wp2
      go_ret
      exact ⟨_, rfl, HF.out⟩
end Go.Proofs.Ytdgbigkcophjoaa.RInt
