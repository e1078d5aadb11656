/- The contracts of the laws' helpers on slices of strings: szStringS, toStringS, eqStringS. Condition: the slice reads as a list of strings. -/
import Derived.Test.YtohgfphbgpjamaaChecked
import Derived.Test.YtohgfphbgpjamaaRow
import Derived.WalkKit
import Derived.Lib.Hide
import Derived.WalkSpells
import Derived.BigQuiet
import Derived.Deep.QuietTactic
import Derived.Outline
namespace Go.Proofs.Ytohgfphbgpjamaa.HelpStr
set_option linter.unusedVariables false
open Go.RowKit
open Go.Proofs.Ytohgfphbgpjamaa.Rowed

/-- how many bytes the strings hold together -/
def nbytes (l : List ByteArray) : Nat := (l.map ByteArray.size).sum
theorem bytes_take (l : List ByteArray) (k : Nat) (x : ByteArray) (h : l[k]? = some x) : nbytes (l.take (k + 1)) = nbytes (l.take k) + x.size := by
  have hk := (List.getElem?_eq_some_iff.1 h).1
  rw [List.take_succ_eq_append_getElem hk, (List.getElem?_eq_some_iff.1 h).2]
  unfold nbytes; rw [List.map_append, List.sum_append]; simp
theorem bytes_take_le (l : List ByteArray) (k : Nat) : nbytes (l.take k) ≤ nbytes l := by
  conv => rhs; rw [← List.take_append_drop k l]
  unfold nbytes; rw [List.map_append, List.sum_append]; omega

/-- szStringS: what is left of 'left' behind the strings and their number, or -1 where nothing is left -/
def SzPost (l : List ByteArray) (left : Int) (w : World) (e : Ending) (w' : World) : Prop :=
  ((0 ≤ left - (l.length : Int) - (nbytes l : Int) ∧ e = .returned (.int .i64 (left - (l.length : Int) - (nbytes l : Int)))) ∨ (left - (l.length : Int) - (nbytes l : Int) < 0 ∧ e = .returned (.int .i64 (-1)))) ∧ w = w'

set_option maxHeartbeats 400000 in
theorem sz_any (A : Option Addr) (n c : Nat) (l : List ByteArray) (left : Int) (w : World) (h : Strs w A n l) (h0 : 0 ≤ left) (h1 : left ≤ 1048576) (hn : n ≤ 9223372036854775807) (hz : Hid (∀ x ∈ l, x.size ≤ maxLen)) :
    Calls Try.prog 21 #[.slice A n c, .int .i64 left] w (SzPost l left w) := by
  have hl := Lib.hid h.len
  by_cases hbig : left < (n : Int)
  · go_enter Try.func21, Try.ntmps21
    go_wp2
    go_ret
    exact ⟨.inr ⟨by rw [hl.out]; omega, rfl⟩, rfl⟩
  · have HH := Lib.hid h
    clear h
    go_enter Try.func21, Try.ntmps21
    go_wp2
    go_loop [1, 5] (fun t i => ∃ k : Nat, k ≤ n ∧ i = .int .i64 k ∧ t = .int .i64 (left - (n : Int) - (nbytes (l.take k) : Int)) ∧ 0 ≤ left - (n : Int) - (nbytes (l.take k) : Int)) (fun _ i => n - (intOf i).toNat)
    case atStart => exact ⟨0, Nat.zero_le _, rfl, by simp [nbytes], by simp [nbytes]; omega⟩
    case round =>
      obtain ⟨k, hk, rfl, rfl, hpos⟩ := hrel
      by_cases hlt : k < n
      · obtain ⟨ad, x, rfl, hx, hcell⟩ := HH.out.at_ hlt
        have hxs : x.size ≤ 9223372036854775807 := by have := hz.out x (List.mem_of_getElem? hx); unfold maxLen at this; exact this
        have HB := Lib.hid (bytes_take l k x hx)
        have HL := Lib.hid (bytes_take_le l (k + 1))
        clear hx
        go_wp2
        · rename_i hneg
          go_ret
          have e1 := HB.out
          have e2 := HL.out
          exact ⟨.inr ⟨by rw [hl.out]; omega, rfl⟩, rfl⟩
        · rename_i hneg
          go_round
          case rel =>
            have e1 := HB.out
            exact ⟨k + 1, by omega, by go_num, by rw [e1]; congr 1; omega, by omega⟩
          case measure => simp [intOf]; omega
      · have e : l.take k = l := List.take_of_length_le (by rw [hl.out]; omega)
        have HE := Lib.hid e
        clear e
        go_wp2
        go_ret
        rw [HE.out] at hpos
        exact ⟨.inl ⟨by rw [hl.out]; exact hpos, by rw [hl.out]; first | rfl | (rw [HE.out]; rfl)⟩, rfl⟩
theorem sz_pos (A : Option Addr) (n c : Nat) (l : List ByteArray) (left : Int) (w : World) (h : Strs w A n l) (h0 : 0 ≤ left) (h1 : left ≤ 1048576) (hn : n ≤ 9223372036854775807) (hz : Hid (∀ x ∈ l, x.size ≤ maxLen)) (hp : 0 ≤ left - (l.length : Int) - (nbytes l : Int)) :
    Calls Try.prog 21 #[.slice A n c, .int .i64 left] w fun e w' => (∃ r : Int, 0 ≤ r ∧ r ≤ left ∧ e = .returned (.int .i64 r)) ∧ w = w' :=
  (sz_any A n c l left w h h0 h1 hn hz).mono fun e w' ⟨h, hw⟩ => ⟨by rcases h with ⟨h, he⟩ | ⟨h, he⟩; exact ⟨_, hp, by omega, he⟩; omega, hw⟩
theorem sz_neg (A : Option Addr) (n c : Nat) (l : List ByteArray) (left : Int) (w : World) (h : Strs w A n l) (h0 : 0 ≤ left) (h1 : left ≤ 1048576) (hn : n ≤ 9223372036854775807) (hz : Hid (∀ x ∈ l, x.size ≤ maxLen)) (hp : left - (l.length : Int) - (nbytes l : Int) < 0) :
    Calls Try.prog 21 #[.slice A n c, .int .i64 left] w fun e w' => e = .returned (.int .i64 (-1)) ∧ w = w' :=
  (sz_any A n c l left w h h0 h1 hn hz).mono fun e w' ⟨h, hw⟩ => ⟨by rcases h with ⟨h, he⟩ | ⟨h, he⟩; omega; exact he, hw⟩
theorem size_le_bytes (l : List ByteArray) : ∀ x ∈ l, x.size ≤ nbytes l := by
  induction l with
  | nil => intro x hx; simp at hx
  | cons y r ih =>
    intro x hx
    have e : nbytes (y :: r) = y.size + nbytes r := by unfold nbytes; simp
    rcases List.mem_cons.1 hx with rfl | h
    · omega
    · have := ih x h; omega
theorem strs_own {w : World} {base n c g : Nat} {e : TypeId} {l : List ByteArray} (h : w.ownsRow base e 1 (.slice (some ⟨g, 0, none⟩) n c) n (l.map Value.string)) : Strs w (some ⟨g, 0, none⟩) n l := Cells.of_own h

theorem infoS : (Try.prog.info? 9).map (fun i => (i.zero, i.size, i.bytes)) = some (some (.string ByteArray.empty), 1, 16) := by kernel_rfl

/-- toStringS: a new row with the same strings -/
def ToPost (l : List ByteArray) (w : World) (e : Ending) (w' : World) : Prop :=
  ∃ g, e = .returned (.slice (some ⟨g, 0, none⟩) l.length l.length) ∧ w'.ownsRow w.heap.size 9 1 (.slice (some ⟨g, 0, none⟩) l.length l.length) l.length (l.map Value.string) ∧ Below w.heap.size w w'

def RelTo (l : List ByteArray) (ys : List Value) (w : World) (k : Nat) (wr : World) : Prop :=
  wr.ownsRow w.heap.size 9 1 (.slice (some ⟨w.heap.size, 0, none⟩) l.length l.length) l.length (fill (l.map Value.string) ys k) ∧ Below w.heap.size w wr

theorem rel_start {l : List ByteArray} {w w1 : World} {ys : List Value} (h : w1.ownsRow w.heap.size 9 1 (.slice (some ⟨w.heap.size, 0, none⟩) l.length l.length) l.length ys) (hg : w.grownBy w1 none) :
    ∃ zs : List Value, Hid (zs.length = l.length) ∧ RelTo l zs w 0 w1 :=
  ⟨ys, Lib.hid (by have := h.1; omega), by rw [fill_zero]; exact h, (Below.refl _ _).grown hg (Nat.le_refl _) (by simp)⟩

theorem rel_round {l : List ByteArray} {ys : List Value} {w wr : World} {k : Nat} {x : ByteArray} (h : RelTo l ys w k wr) (hy : Hid (ys.length = l.length)) (hx : l[k]? = some x) :
    ∃ y, wr.cell? ⟨w.heap.size, k, none⟩ = some y ∧ wr.frozen? ⟨w.heap.size, k, none⟩ = false ∧ RelTo l ys w (k + 1) (wr.setCell ⟨w.heap.size, k, none⟩ (.string x)) := by
  have hy' : ys.length = l.length := hy
  have hk := (List.getElem?_eq_some_iff.1 hx).1
  have hlen : (fill (l.map Value.string) ys k).length = l.length := by rw [fill_len _ _ _ (by simpa using hy')]; exact hy'
  have hc := h.1.cellAt k (by omega)
  rw [List.getElem?_eq_getElem (by omega)] at hc
  refine ⟨_, hc, h.1.frozenAt k, ?_, h.2.setCell (Nat.le_refl _) _⟩
  have := (h.1.stored k (.string x)).1
  rw [fill_set _ _ _ _ (by omega) (by rw [List.getElem?_map, hx]; rfl)] at this
  exact this

theorem rel_end {l : List ByteArray} {ys : List Value} {w wr : World} (h : RelTo l ys w l.length wr) (hy : Hid (ys.length = l.length)) :
    wr.ownsRow w.heap.size 9 1 (.slice (some ⟨w.heap.size, 0, none⟩) l.length l.length) l.length (l.map Value.string) ∧ Below w.heap.size w wr := by
  have hy' : ys.length = l.length := hy
  have e := fill_all (l.map Value.string) ys (by simpa using hy')
  rw [List.length_map] at e
  have h1 := h.1
  rw [e] at h1
  exact ⟨h1, h.2⟩

set_option maxHeartbeats 800000 in
theorem to_any (A : Option Addr) (c : Nat) (l : List ByteArray) (w : World) (h : Strs w A l.length l) (hn : l.length ≤ 1048576) :
    Calls Try.prog 22 #[.slice A l.length c] w (ToPost l w) := by
  obtain ⟨i0, hi, hz0, hz1, hz2⟩ := info_parts infoS
  have HH := Lib.hid h
  clear h
  go_enter Try.func22, Try.ntmps22
  go_wp2_with (at_make; refine wpList_make_full _ rfl _ _ 26 rfl w.heap.size 9 i0 (.string ByteArray.empty) 1 Try.underlying26 hi hz0 hz1 .i64 .i64 _ _ l.length rfl rfl rfl rfl (by rw [hz2]; omega) (by unfold maxLen; omega) (Nat.le_refl _) ?_; intro w1 hO hG; obtain ⟨ys, hys, hR0⟩ := rel_start hO hG; clear hO hG)
  go_loopw [4] (fun i wr => ∃ k : Nat, k ≤ l.length ∧ i = .int .i64 k ∧ RelTo l ys w k wr) (fun i _ => l.length - (intOf i).toNat)
  case atStart => exact ⟨0, Nat.zero_le _, rfl, hR0⟩
  case round =>
    obtain ⟨k, hk, rfl, hR⟩ := hrel
    by_cases hlt : k < l.length
    · obtain ⟨ad, x, rfl, hx, hcell0⟩ := HH.out.at_ hlt
      have hcell := cell_below hR.2 hcell0
      obtain ⟨y, hc, hf, hset⟩ := rel_round hR hys hx
      have HS := Lib.hid hset
      clear hR hx hcell0 hset
      go_wp2
      go_roundw
      case rel => exact ⟨k + 1, by omega, by go_num, HS.out⟩
      case measure => simp [intOf]; omega
    · obtain rfl : k = l.length := by omega
      have HF := Lib.hid (rel_end hR hys)
      clear hR
      go_wp2
      go_ret
      exact ⟨_, rfl, HF.out⟩
set_option maxHeartbeats 800000 in
/-- eqStringS, where both slices hold the same strings -/
theorem eq_same (A B : Option Addr) (n c d : Nat) (l : List ByteArray) (w : World) (h1 : Strs w A n l) (h2 : Strs w B n l) (hn : n ≤ 9223372036854775807) :
    Calls Try.prog 18 #[.slice A n c, .slice B n d] w fun e w' => e = .returned (.bool true) ∧ DrawnTo w w' := by
  have H1 := Lib.hid h1
  have H2 := Lib.hid h2
  clear h1 h2
  go_enter Try.func18, Try.ntmps18
  go_wp2
  go_loopw [5] (fun i wr => ∃ k : Nat, k ≤ n ∧ i = .int .i64 k ∧ DrawnTo w wr) (fun i _ => n - (intOf i).toNat)
  case atStart => exact ⟨0, Nat.zero_le _, rfl, 0, rfl⟩
  case round =>
    obtain ⟨k, hk, rfl, m, rfl⟩ := hrel
    by_cases hlt : k < n
    · obtain ⟨ad, x, rfl, hx, hc1⟩ := H1.out.at_ hlt
      obtain ⟨bd, y, rfl, hy, hc2⟩ := H2.out.at_ hlt
      obtain rfl : x = y := by rw [hx] at hy; exact Option.some.inj hy
      clear hx hy
      have hb1 : 0 ≤ (k : Int) := by omega
      have hb2 : (k : Int) < n := by omega
      go_wp2_with fail
      go_quiet (fail)
      go_wp2_with fail
      go_roundw
      case rel => exact ⟨k + 1, by omega, by go_num, _, rfl⟩
      case measure => simp [intOf]; omega
    · go_wp2
      go_ret
      exact ⟨rfl, m, rfl⟩
end Go.Proofs.Ytohgfphbgpjamaa.HelpStr
